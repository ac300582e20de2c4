import PyProof.Rows.All
import Wide.All
import OpenK.AllK
import Wide.FinOn
import Lean
import PyProof.EqAt
import PyProof.EqKinds
import PyProof.TupleCall
import PyProof.Rows.StrCountLaw
import PyProof.Rows.StrFirst
import PyProof.Rows.StrLast
import PyProof.Rows.StrNews2
import PyProof.Rows.StrSplitCount
import PyProof.StrBlockI
import PyProof.StrLawsIn
import PyProof.StrLawsLast
import PyProof.EnumMake
import PyProof.FString
import PyProof.ReprStr
import PyProof.StrLawsRepr
import PyProof.ListStr
import PyProof.ListRange
import PySem.Challenge.RW_grooveway_k17_what_rooms_remember
set_option Elab.async false
set_option linter.all false
set_option maxRecDepth 100000
set_option maxHeartbeats 4000000
open PySem.W (keepIn nsIn mg_of fnOf codeIn kitOne mg_none_of isFn instObj emptyDict)
namespace L2
open PySem PySem.Spec PyProof.Rows
abbrev Key:=Sum Int Str
def V0:Key->Value->Bool
 | .inl k,v=>Value.isInt k v
 | .inr x,v=>Value.isStrOf x v
def Zko(w:World):Key->Int
 | .inl k=>hashInt k
 | .inr x=>hashStr w x
theorem XG:∀{k:Key}{v:Value},V0 k v=true->(∃i t,k=Sum.inl i/\v=Value.int i t)\/(∃x t,k=Sum.inr x/\v=Value.str x t)
 | .inl i,v,h=>by
  obtain⟨t,e⟩:=Value.isInt_shape (k:=i) (v:=v) h;exact .inl ⟨i,t,rfl,e⟩
 | .inr x,v,h=>by
  obtain⟨t,e⟩:=Value.isStrOf_shape (x:=x) (v:=v) h;exact .inr ⟨x,t,rfl,e⟩
theorem ZdK(i:Int)(t:Tok):V0 (.inl i) (.int i t)=true:=by simp [V0,Value.isInt]
theorem ZdL(x:Str)(t:Tok):V0 (.inr x) (.str x t)=true:=by simp [V0,Value.isStrOf]
theorem ZhK(a b:Int):decide ((Sum.inl a:Key)=Sum.inl b)=(a == b):=by
 by_cases e:a=b
 · subst e;simp
 · have h:¬(Sum.inl a:Key)=Sum.inl b:=λq=>e (Sum.inl.inj q)
   rw [decide_eq_false h];exact(beq_eq_false_iff_ne.mpr e).symm
theorem ZhL(a b:Str):decide ((Sum.inr a:Key)=Sum.inr b)=decide (a=b):=by
 by_cases e:a=b
 · subst e;simp
 · have h:¬(Sum.inr a:Key)=Sum.inr b:=λq=>e (Sum.inr.inj q)
   rw [decide_eq_false h,decide_eq_false e]
theorem ZhM(a:Int)(b:Str):decide ((Sum.inl a:Key)=Sum.inr b)=false:=decide_eq_false (λq=>nomatch q)
theorem ZhN(a:Str)(b:Int):decide ((Sum.inr a:Key)=Sum.inl b)=false:=decide_eq_false (λq=>nomatch q)
def Yc(prog:Program)(w:World):PySem.KeyKind prog w Key where
 is:=V0
 hash:=Zko w
 inj:=λv a b ha hb=>by
  rcases XG ha with⟨i,t,rfl,rfl⟩|⟨x,t,rfl,rfl⟩
  · rcases XG hb with⟨j,u,rfl,e⟩|⟨y,u,rfl,e⟩
    · injection e with e1 _;rw [e1]
    · exact nomatch e
  · rcases XG hb with⟨j,u,rfl,e⟩|⟨y,u,rfl,e⟩
    · exact nomatch e
    · injection e with e1 _;rw [e1]
 byValue:=λk v h=>by
  rcases XG h with⟨i,t,rfl,rfl⟩|⟨x,t,rfl,rfl⟩<;>rfl
 pyHash:=λhv h=>by
  rcases XG hv with⟨i,t,rfl,rfl⟩|⟨x,t,rfl,rfl⟩
  · exact wpAny_pyHash_int h
  · exact wpAny_pyHash_str h
 eqBool:=λhu hv h=>by
  rcases XG hu with⟨i,t,rfl,rfl⟩|⟨x,t,rfl,rfl⟩
  · rcases XG hv with⟨j,u,rfl,rfl⟩|⟨y,u,rfl,rfl⟩
    · rw [ZhK]at h;exact wpAny_eqBool_int h
    · rw [ZhM]at h;exact SeqAt.EqAt.int_str i t y u _ _ _ _ h
  · rcases XG hv with⟨j,u,rfl,rfl⟩|⟨y,u,rfl,rfl⟩
    · rw [ZhN]at h;exact SeqAt.EqAt.str_int x t j u _ _ _ _ h
    · rw [ZhL]at h;exact wpAny_eqBool_str h
 «strs» := λk x t v h=>by
  rcases XG h with⟨i,u,rfl,e⟩|⟨y,u,rfl,e⟩
  · exact nomatch e
  · injection e with e1 _
    subst e1;cases v<;>rfl
theorem ZbA(prog:Program)(w:World)(i:Int)(t:Tok):(Yc prog w).is (.inl i) (.int i t)=true:=ZdK i t
theorem ZbB(prog:Program)(w:World)(x:Str)(t:Tok):(Yc prog w).is (.inr x) (.str x t)=true:=ZdL x t
end L2
namespace L2
open PySem PySem.Spec PyProof.Rows
inductive V where
 |non|bl (b:Bool)|int (i:Int)|str (x:Str)|byt (b:Array UInt8)|flt (b:UInt64)|ref (a:Addr)|ty (n:String)
 deriving DecidableEq
def RelV:V->Value->Prop
 | .non,u=>u=Value.none
 | .bl b,u=>u=Value.bool b
 | .int i,u=>∃t,u=Value.int i t
 | .str x,u=>∃t,u=Value.str x t
 | .byt b,u=>∃t,u=Value.bytes b t
 | .flt b,u=>∃t,u=Value.float b t
 | .ref a,u=>u=Value.ref a
 | .ty n,u=>u=Value.type n
abbrev Vals:List V->List Value->Prop:=Paired RelV
theorem Vals.length{xs:List V}{us:List Value}(r:Vals xs us):xs.length=us.length:=Paired.length r
theorem Vals.get:∀{xs:List V}{us:List Value}{i:Nat}{x:V},Vals xs us->xs[i]? = some x->∃u,us[i]? = some u/\RelV x u
 |_,_,_,_,.nil,e=>by simp at e
 |_,_,0,_,.cons r _,e=>by simp at e;subst e;exact⟨_,rfl,r⟩
 |_,_,i+1,x,.cons _ t,e=>by
  obtain⟨u,h1,h2⟩:=Vals.get (i:=i) (x:=x) t (by simpa using e);exact⟨u,by simpa using h1,h2⟩
theorem Vals.set{x:V}{u:Value}(r:RelV x u):∀{xs:List V}{us:List Value}(i:Nat),Vals xs us->Vals (xs.set i x) (us.set i u)
 |_,_,_,.nil => .nil
 |_,_,0,.cons _ t => .cons r t
 |_,_,i+1,.cons q t => .cons q (Vals.set r i t)
theorem Vals.append:∀{xs ys:List V}{us ws:List Value},Vals xs us->Vals ys ws->Vals (xs++ys) (us++ws)
 |_,_,_,_,.nil,s=>s
 |_,_,_,_,.cons r t,s => .cons r (Vals.append t s)
def RelO:Option V->Option Value->Prop
 |some v,some u=>RelV v u
 |none,none=>True
 |_,_=>False
def KV{κ:Type}:List (κ×V)->List (κ×Value)->Prop:=Paired λ(p:κ×V) (q:κ×Value)=>p.1=q.1/\RelV p.2 q.2
def kV:Key->V
 | .inl i => .int i
 | .inr x => .str x
inductive HO where
 |lst (xs:List V)
 |tup (xs:List V)
 |dK (kvs:List (Key×V))|dT (kvs:List (List Key×V))
 |set (S:Int->Bool) (n:Nat)
 |ins (C dx:Addr) (fs:List (Str×V))
 |own (x:Addr)
 |xd (fs:List (Str×V))
 |met (f x:Addr)
 |rng (lo hi:Int)
 |frz (o:Obj) (u:HO)
 |tbl (ps:Array Value)
 |cod (q:Str)
 |ext (φ:Heap->Prop)
abbrev Hp:=Addr->Option HO
def upd(H:Hp)(a:Addr)(o:HO):Hp:=λb=>if b=a then some o else H b
theorem Zm{H:Hp}{a:Addr}{o:HO}:upd H a o a=some o:=by unfold upd;rw [if_pos rfl]
theorem Zc{H:Hp}{a b:Addr}{o:HO}(h:b≠a):upd H a o b=H b:=by unfold upd;rw [if_neg h]
theorem Zhm{H:Hp}{a b:Addr}{o u:HO}(h:H a=some o)(h':H b=some u)(d:o≠u):a≠b:=by
 intro e;subst e;rw [h]at h';exact d (Option.some.inj h')
theorem ZW{H:Hp}{a b:Addr}{o:HO}(h:H a=some o)(h':H b=none):a≠b:=by
 intro e;subst e;rw [h]at h';cases h'
def TupN(h:Heap)(a:Addr)(its:Array Value):Prop:=∃o,h.get? a=some o/\o.cls = .type "tuple" /\ (∃n,o.data = .seq its n)/\o.dict=none
theorem TupN.tup{h:Heap}{a:Addr}{its:Array Value}(x:TupN h a its):IsTup h a its:=let⟨o,e,c,d,_⟩:=x;⟨o,e,c,d⟩
theorem TupN.new(h:Heap)(its:Array Value):TupN (h.push { cls := .type "tuple",data := .seq its }) h.objs.size its:=⟨_,Heap.get?_push_size _ rfl,rfl,⟨_,rfl⟩,rfl⟩
section
variable(P:Program)(w:World)
def ObjOk(H:Hp)(h:Heap)(a:Addr):HO->Prop
 | .lst xs=>xs.length<=sizeLine/\∃(its:List Value) (n:Nat),Vals xs its/\h.get? a=some { cls := .type "list",data := .seq its.toArray n }
 | .tup xs=>xs.length<=sizeLine/\∃its:List Value,Vals xs its/\TupN h a its.toArray
 | .dK kvs=>kvs.length<=sizeLine/\(a == sysModules)=false/\∃vs,KV kvs vs/\h.DictOf (Yc P w) a vs
 | .dT kvs=>kvs.length<=sizeLine/\(a == sysModules)=false/\∃xs:List (List Key×Addr×Value),
  Paired (λ(p:List Key×V) (q:List Key×Addr×Value)=>p.1=q.1/\H q.2.1=some (.tup (p.1.map kV))/\RelV p.2 q.2.2) kvs xs /\
  ∃o es ep,h.get? a=some o/\o.ExactDict/\o.data = .dict es ep/\es.toList=xs.map (entryOfKey (tupleKind (Yc P w)))/\(xs.map (·.1)).Nodup
 | .set S n=>h.SetOf (intKind P w) a S n
 | .ins C dx fs=>H dx=some (.own a)/\fs.length<=1000/\dx≠a/\h.get? a=some (instObj C dx) /\
  ∃mA,h.Ns1 dx mA/\(∀f,RelO (fs.lookup f) (mA f))/\PySem.Within mA (fs.map (·.1))
 | .own _=>∃o,h.get? a=some o
 | .xd fs=>∃mA,h.Ns1 a mA/\∀f,RelO (fs.lookup f) (mA f)
 | .rng lo hi=>∃t u v,h.get? a=some { cls := .type "range",data := .fields #[.int lo t,.int hi u,.int 1 v] }
 | .frz o u=>h.get? a=some o/\ObjOk H h a u
 | .tbl ps=>∃qs:Array Value,h.get? a=some (PySem.W.tabObj qs)/\TriplesOk qs.toList/\∀pos cv,codeAmong pos qs.toList=some cv->∃c oc q u,cv = .ref c/\H c=some (.frz oc (.cod q))/\ps[0]? = some (.str q u)
 | .cod q=>h.CodeRec (.ref a) q
 | .met f x=>h.get? a=some (PySem.W.methodObj (.ref f) (.ref x))
 | .ext φ=>φ h/\(∃o,h.get? a=some o)/\∀h1 h2:Heap,φ h1->(∀o,h1.get? a=some o->h2.get? a=some o)->φ h2
def HOk(H:Hp)(h:Heap):Prop:=∀a o,H a=some o->ObjOk P w H h a o
end
section
variable{P:Program}{w:World}{H H':Hp}{h h':Heap}{a:Addr}{o:HO}
theorem ObjOk.lt(x:ObjOk P w H h a o):a<h.objs.size:=by
 cases o with
 |lst xs=>obtain⟨_,_,_,_,e⟩:=x;exact Heap.lt_size e
 |tup xs=>obtain⟨_,_,_,p⟩:=x;exact p.tup.lt
 |dK kvs=>obtain⟨_,_,_,_,o,_,_,e,_⟩:=x;exact Heap.lt_size e
 |dT kvs=>obtain⟨_,_,_,_,o,_,_,e,_⟩:=x;exact Heap.lt_size e
 |set S n=>obtain⟨o,_,_,_,e,_⟩:=x;exact Heap.lt_size e
 |ins C dx fs=>obtain⟨_,_,_,e,_⟩:=x;exact Heap.lt_size e
 |own y=>obtain⟨_,e⟩:=x;exact Heap.lt_size e
 |xd fs=>obtain⟨_,⟨_,_,_,e,_⟩,_⟩:=x;exact Heap.lt_size e
 |rng lo hi=>obtain⟨_,_,_,e⟩:=x;exact Heap.lt_size e
 |frz ob u=>obtain⟨e,_⟩:=x;exact Heap.lt_size e
 |tbl ps=>obtain⟨_,e,_⟩:=x;exact Heap.lt_size e
 |cod q=>obtain⟨_,_,_,_,e,g,_⟩:=x;cases e;exact Heap.lt_size g
 |met f y=>exact Heap.lt_size (show h.get? a=some _ from x)
 |ext φ=>obtain⟨_,⟨_,e⟩,_⟩:=x;exact Heap.lt_size e
theorem Paired.mapP{α β:Type}{F G:α->β->Prop}:∀{l₁:List α}{l₂:List β},Paired F l₁ l₂->(∀a b,F a b->G a b)->Paired G l₁ l₂
 |_,_,.nil,_ => .nil
 |_,_,.cons r t,f => .cons (f _ _ r) (Paired.mapP t f)
theorem ObjOk.stay (x:ObjOk P w H h a o) (k:∀b u,(b=a\/H b=some (.own a))->h.get? b=some u->h'.get? b=some u)
 (ho:∀b,H b=some (.own a)->H' b=some (.own a)) (ht:∀b xs,H b=some (.tup xs)->H' b=some (.tup xs))
 (hc:∀b ob q,H b=some (.frz ob (.cod q))->H' b=some (.frz ob (.cod q)):=by intro b' ob' q' e';first|exact e'|(rw [Zc (ZW e' (by assumption))];exact e')):ObjOk P w H' h' a o:=by
 induction o with
 |lst xs=>obtain⟨z,its,n,r,e⟩:=x;exact⟨z,its,n,r,k _ _ (.inl rfl) e⟩
 |tup xs=>obtain⟨z,its,r,ob,e,c⟩:=x;exact⟨z,its,r,ob,k _ _ (.inl rfl) e,c⟩
 |dK kvs=>obtain⟨z,y,vs,r,ob,es,ep,e,c⟩:=x;exact⟨z,y,vs,r,ob,es,ep,k _ _ (.inl rfl) e,c⟩
 |dT kvs=>
  obtain⟨z,y,xs,r,ob,es,ep,e,c⟩:=x;exact⟨z,y,xs,Paired.mapP r λp q z=>⟨z.1,ht _ _ z.2.1,z.2.2⟩,ob,es,ep,k _ _ (.inl rfl) e,c⟩
 |set S n=>obtain⟨ob,es,ep,t,e,c⟩:=x;exact⟨ob,es,ep,t,k _ _ (.inl rfl) e,c⟩
 |ins C dx fs=>
  obtain⟨d,z,ne,e,mA,⟨od,es,ep,e2,c⟩,r⟩:=x;exact⟨ho _ d,z,ne,k _ _ (.inl rfl) e,mA,⟨od,es,ep,k _ _ (.inr d) e2,c⟩,r⟩
 |own y=>obtain⟨ob,e⟩:=x;exact⟨ob,k _ _ (.inl rfl) e⟩
 |xd fs=>obtain⟨mA,⟨od,es,ep,e,c⟩,r⟩:=x;exact⟨mA,⟨od,es,ep,k _ _ (.inl rfl) e,c⟩,r⟩
 |rng lo hi=>obtain⟨t,u,v,e⟩:=x;exact⟨t,u,v,k _ _ (.inl rfl) e⟩
 |frz ob u ih=>obtain⟨e,q⟩:=x;exact⟨k _ _ (.inl rfl) e,ih q⟩
 |tbl ps=>
  obtain⟨qs,e,t,c⟩:=x;refine⟨qs,k _ _ (.inl rfl) e,t,λpos cv z => ?_⟩;obtain⟨c',oc,q,u,z1,z2,z3⟩:=c pos cv z;exact⟨c',oc,q,u,z1,hc _ _ _ z2,z3⟩
 |cod q=>
  obtain⟨c,o,vs,t,e,g,r⟩:=x;cases e;exact⟨_,o,vs,t,rfl,k _ _ (.inl rfl) g,r⟩
 |met f y=>
  have e:h.get? a=some (PySem.W.methodObj (.ref f) (.ref y)):=x;show h'.get? a=some (PySem.W.methodObj (.ref f) (.ref y));exact k a _ (.inl rfl) e
 |ext φ=>obtain⟨p,⟨o,e⟩,st⟩:=x;exact⟨st _ _ p λo q=>k _ _ (.inl rfl) q,⟨o,k _ _ (.inl rfl) e⟩,st⟩
theorem HOk.lt(x:HOk P w H h)(e:H a=some o):a<h.objs.size:=(x a o e).lt
theorem HOk.fresh(x:HOk P w H h)(e:h.objs.size<=a):H a=none:=by
 cases q:H a with
 |none=>rfl
 |some u=>exact absurd (Nat.lt_of_lt_of_le (x.lt q) e) (Nat.lt_irrefl _)
theorem HOk.kept(x:HOk P w H h)(k:∀b u,h.get? b=some u->h'.get? b=some u):HOk P w H h':=λa o e=>
 (x a o e).stay (λb u _ q=>k b u q) (λ_ q=>q) λ_ _ q=>q
theorem HOk.laid(x:HOk P w H h)(k:∀b u,h.get? b=some u->h'.get? b=some u)(hp:h.objs.size<=a)(new:ObjOk P w (upd H a o) h' a o):HOk P w (upd H a o) h':=λb u e=>by
 have hn:=x.fresh hp
 by_cases hb:b=a
 · subst hb;rw [Zm]at e;cases e;exact new
 · rw [Zc hb]at e
   exact(x b u e).stay (λc v _ q=>k c v q) (λc q=>by rw [Zc (ZW q hn)];exact q) λc xs q=>by rw [Zc (ZW q hn)];exact q
end
def Rd(H:Hp)(a:Addr)(u:HO):Prop:=H a=some u\/∃o,H a=some (.frz o u)
theorem Rd.of{H:Hp}{a:Addr}{u:HO}(h:H a=some u):Rd H a u := .inl h
theorem Rd.ok{P:Program}{w:World}{H:Hp}{h:Heap}{a:Addr}{u:HO}(r:Rd H a u)(x:HOk P w H h):ObjOk P w H h a u:=by
 rcases r with r|⟨o,r⟩
 · exact x a u r
 · obtain⟨_,q⟩:=x a _ r
   exact q
def Mut:Option HO->Prop
 |some (.lst _)=>True
 |some (.dK _)=>True
 |some (.dT _)=>True
 |some (.set _ _)=>True
 |some (.ins _ _ _)=>True
 |some (.ext _)=>True
 |_=>False
section
variable{P:Program}{w:World}{H:Hp}{h h':Heap}{x e:Addr}{o':HO}
theorem HOk.write (ok:HOk P w H h) (mu:Mut (H x)) (he:e=x\/H e=some (.own x)) (k:∀b u,b≠e->h.get? b=some u->h'.get? b=some u) (heo:∃u,h'.get? e=some u)
 (new:ObjOk P w (upd H x o') h' x o'):HOk P w (upd H x o') h':=λb u q=>by
 have nown:∀c y,H c=some (.own y)->c≠x:=λc y r z=>by subst z;rw [r]at mu;exact mu
 have ntup:∀c xs,H c=some (.tup xs)->c≠x:=λc xs r z=>by subst z;rw [r]at mu;exact mu
 by_cases hb:b=x
 · subst hb;rw [Zm]at q;cases q;exact new
 · rw [Zc hb]at q
   by_cases hbe:b=e
   · have q' : H b = some (.own x) := by
      rcases he with z|z
      · exact absurd (hbe.trans z) hb
      · rw [hbe];exact z
     rw [q]at q';cases q';obtain⟨v,hv⟩:=heo;exact⟨v,by rw [hbe];exact hv⟩
   · refine(ok b u q).stay (λc v hc r=>k c v ?_ r) (λc r=>by rw [Zc (nown c b r)];exact r) (λc xs r=>by rw [Zc (ntup c xs r)];exact r) (λc ob y r=>by rw [Zc (λz=>by subst z;rw [r]at mu;exact mu)];exact r)
     rcases hc with rfl|hc
     · exact hbe
     · rintro rfl
       rcases he with z|z
       · exact nown c b hc z
       · rw [hc]at z;cases z;exact hb rfl
end
structure Un(fs ex:List Addr)(H H':Hp)(h h':Heap):Prop where
 keep:∀b o,h.get? b=some o->H b=none->b∉fs->b∉ex->h'.get? b=some o
 slot:∀b o,h.get? b=some o->H b=none->b∈fs->b∉ex->∃sl,h'.get? b=some { o with slots:=sl }
 free:∀b o,h.get? b=some o->H b=none->b∉ex->H' b=none
 there:∀b o,h.get? b=some o->b∉ex->∃o',h'.get? b=some o'
 tups:∀b xs,H b=some (.tup xs)->H' b=some (.tup xs)
 frzs:∀b o u,H b=some (.frz o u)->H' b=some (.frz o u)
 tbls:∀b ps,H b=some (.tbl ps)->∃more,H' b=some (.tbl (ps++more))
section
variable{fs fs' ex ex':List Addr}{H H1 H2:Hp}{h h1 h2 h':Heap}{a x e:Addr}{o:HO}
theorem Un.any(u:Un fs ex H H1 h h1){b:Addr}{ob:Obj}(q:h.get? b=some ob)(n:H b=none)(hx:b∉ex):∃sl,h1.get? b=some { ob with slots:=sl }:=by
 by_cases hb:b∈fs
 · exact u.slot b ob q n hb hx
 · exact⟨ob.slots,u.keep b ob q n hb hx⟩
theorem Un.kept(k:∀b u,h.get? b=some u->h'.get? b=some u):Un fs ex H H h h':=
 ⟨λb ob q _ _ _=>k b ob q,λb ob q _ _ _=>⟨ob.slots,k b ob q⟩,λ_ _ _ n _=>n,λb ob q _=>⟨ob,k b ob q⟩,λ_ _ q=>q,λ_ _ _ q=>q,λ_ ps q=>⟨#[],by rw [q];simp⟩⟩
theorem Un.refl:Un fs ex H H h h:=Un.kept λ_ _ q=>q
theorem Un.laid(k:∀b u,h.get? b=some u->h'.get? b=some u)(hp:h.objs.size<=a)(hn:H a=none):Un fs ex H (upd H a o) h h' where
 keep:=λb u q _ _ _=>k b u q
 slot:=λb u q _ _ _=>⟨u.slots,k b u q⟩
 free:=λb u q n _=>by rw [Zc (Nat.ne_of_lt (Nat.lt_of_lt_of_le (Heap.lt_size q) hp))];exact n
 there:=λb u q _=>⟨u,k b u q⟩
 tups:=λb xs q=>by rw [Zc (ZW q hn)];exact q
 frzs:=λb u xs q=>by rw [Zc (ZW q hn)];exact q
 tbls:=λb ps q=>⟨#[],by rw [Zc (ZW q hn),q];simp⟩
theorem Un.write(mu:Mut (H x))(he:e=x\/H e=some (.own x))(k:∀b u,b≠e->h.get? b=some u->h'.get? b=some u)(heo:∃u,h'.get? e=some u):Un fs ex H (upd H x o) h h':=by
 have hx:∀b,H b=none->b≠x:=λb n z=>by subst z;rw [n]at mu;exact mu
 have hb:∀b,H b=none->b≠e:=λb n z=>by
  subst z;rcases he with r|r
  · exact hx b n r
  · rw [n]at r;cases r
 have hm:∀b u,H b=some u->¬Mut (some u)->b≠x:=λb u q nm z=>by subst z;rw [q]at mu;exact nm mu
 refine⟨λb u q n _ _=>k b u (hb b n) q,λb u q n _ _=>⟨u.slots,k b u (hb b n) q⟩,λb u q n _=>by rw [Zc (hx b n)];exact n,λb u q _ => ?_,
  λb xs q=>by rw [Zc (hm b _ q λz=>z)];exact q,λb u xs q=>by rw [Zc (hm b _ q λz=>z)];exact q,λb ps q=>⟨#[],by rw [Zc (hm b _ q λz=>z),q];simp⟩⟩
 by_cases hbe:b=e
 · subst hbe;exact heo
 · exact⟨u,k b u hbe q⟩
end
def trk(h:Heap)(H:Hp):List Addr:=(List.range h.objs.size).filter λa=>(H a).isSome
def XH(h:Heap)(H:Hp):Heap:=PySem.W.hideAll h (trk h H)
theorem ZdM(h:Heap)(H:Hp):(XH h H).objs.size=h.objs.size:=PySem.W.hideAll_size _ _
theorem Zes{h:Heap}{H:Hp}{b:Addr}{o:Obj}(e:h.get? b=some o)(n:H b=none):(XH h H).get? b=some o:=
 PySem.W.hideAll_get _ e λhm=>by
  have q:(H b).isSome=true:=(List.mem_filter.mp hm).2;rw [n]at q;simp at q
theorem Zf9{h:Heap}{H:Hp}{b:Addr}{o:Obj}(e:(XH h H).get? b=some o):h.get? b=some o/\H b=none:=by
 have e':h.get? b=some o:=PySem.W.of_hideAll (trk h H) e;refine⟨e',?_⟩;cases q:H b with
 |none=>rfl
 |some x=>
  have hm:b∈trk h H:=List.mem_filter.mpr ⟨List.mem_range.mpr (Heap.lt_size e'),by simp [q]⟩;have z:(XH h H).get? b=none:=PySem.W.hideAll_none (trk h H) hm;rw [z]at e;cases e
end L2
namespace L2
open PySem PySem.Spec PyProof.Rows
structure Mod(K:PySem.W.Frag)(mg:Str->Option Value)(base:Heap):Prop where
 kin:K.In base
 glob:base.Ns mainGlobals mg
 blt:∃mb,base.Ns builtinsNs mb/\∀x:Str,x ≠ "__name__" -> mb x=bootBuiltins x
 nolimit:base.NoLimit
structure Cx where
 prog:Program
 w:World
 K:PySem.W.Frag
 mg:Str->Option Value
 base:Heap
 A:Around
 N:List Str
 s₀:Shared
 H₀:Hp
 env:Env
 outer:List Env
 stack:List Env
 ex:List Addr
 fn:Str->Bool
 calm:Bool
 pn:List (Addr×Obj)
 xe:Value->Shared->Prop
 fz:List (Addr×Obj×Str):=[]
def frs(l:List Env):List Addr:=l.filterMap (·.frame)
abbrev Cx.fs(X:Cx):List Addr:=frs X.outer
def Vis(sc:Scope)(x:Str):Prop:=sc.names.lookup x=some .local\/sc.names.lookup x=some .cell\/sc.names.lookup x=some .free
def Loc(sc:Scope)(x:Str):Prop:=sc.names.lookup x=some .local\/sc.names.lookup x=some .cell
def ZjW(env:Env)(h:Heap)(m:Str->Option Value)(x:Str)(u:Value):Prop:=
 (env.kindOf x=some .local/\m x=some u)\/((env.kindOf x=some .cell\/env.kindOf x=some .free)/\∃c,env.cells.lookup x=some c/\h.IsCell c (some u))
def X4(K:PySem.W.Frag):List (Addr×Str):=K.filterMap λp=>match p.2.cls,p.2.dict with
 | .str q _,some P=>some (P,q)
 |_,_=>none
def Js(K:PySem.W.Frag)(H:Hp):Prop:=∀q∈X4 K,∃more,H q.1=some (.tbl (#[.str q.2 0]++more))
structure Cx.Ok(X:Cx):Prop where
 mod:Mod X.K X.mg X.base
 kind:X.env.scope.kind = .function
 glob:X.env.globals=mainGlobals
 blt:X.env.builtins=builtinsNs
 above:X.s₀.heap.objs.size<=X.env.locals
 inj:∀x y c,X.env.cells.lookup x=some c->X.env.cells.lookup y=some c->x=y
 has:∀x,(X.env.kindOf x=some .cell\/X.env.kindOf x=some .free)->∃c,X.env.cells.lookup x=some c
 cab:∀x c,X.fn x=true->X.env.cells.lookup x=some c->X.s₀.heap.objs.size<=c
 hd:X.calm=true->X.A.handled=none
 frames:X.A.frames=some X.stack
 stk:X.stack=X.outer\/(X.stack=X.env::X.outer/\X.env.frame=some X.env.locals)
 exf:∀b∈X.ex,b≠X.env.locals/\∀x c,X.env.cells.lookup x=some c->c≠b
 bs:∀b o,X.base.get? b=some o->X.s₀.heap.get? b=some o/\X.H₀ b=none
 bsz:X.base.objs.size<=X.s₀.heap.objs.size
 noex:∀b o,X.base.get? b=some o->b∉X.ex
 exfs:∀b∈X.ex,b∉X.fs
 funs:X.s₀.heap.FunFrames X.base X.outer
 frf:∀b∈X.fs,X.H₀ b=none
 tb:Js X.K X.H₀
structure Inv(X:Cx)(pins:List (Addr×Obj))(σ:List (Option V))(H:Hp)(s:Shared):Prop where
 ok:X.Ok
 os:s.os=X.s₀.os
 bare:AllBare s.gens
 base:Un X.fs X.ex X.H₀ H X.s₀.heap s.heap
 loc:∃m,s.heap.Ns X.env.locals m/\∀(i:Nat)(x:Str)(v:V),X.N[i]? = some x->σ[i]? = some (some v)->Vis X.env.scope x->∃u,RelV v u/\ZjW X.env s.heap m x u
 cell:∀x c,X.env.cells.lookup x=some c->∃v,s.heap.IsCell c v
 free:H X.env.locals=none
 freeC:∀x c,X.env.cells.lookup x=some c->H c=none
 pin:∀p∈X.pn++pins,s.heap.get? p.1=some p.2/\H p.1=none/\p.1≠X.env.locals/\p.1∉X.fs/\∀v,p.2.data ≠ .cell v
 hok:HOk X.prog X.w H s.heap
 len:σ.length=X.N.length
 fzs:∀q∈X.fz,H q.1=some (.frz q.2.1 (.cod q.2.2))
section
variable{X:Cx}{pins:List (Addr×Obj)}{σ:List (Option V)}{H H':Hp}{s:Shared}{h':Heap}
theorem Cx.Ok.nofr(ok:X.Ok){b:Addr}{o:Obj}(e:X.base.get? b=some o):b∉X.fs:=λhb=>by
 have:=(ok.funs.mem hb).1;rw [e]at this;cases this
theorem Inv.bs(I:Inv X pins σ H s):∀b o,X.base.get? b=some o->s.heap.get? b=some o/\H b=none:=λb o e=>
 ⟨I.base.keep b o (I.ok.bs b o e).1 (I.ok.bs b o e).2 (I.ok.nofr e) (I.ok.noex b o e),I.base.free b o (I.ok.bs b o e).1 (I.ok.bs b o e).2 (I.ok.noex b o e)⟩
theorem Inv.bk(I:Inv X pins σ H s):∀b o,X.base.get? b=some o->s.heap.get? b=some o:=λb o e=>(I.bs b o e).1
theorem Inv.mod(I:Inv X pins σ H s):Mod X.K X.mg X.base:=I.ok.mod
theorem Inv.kIn(I:Inv X pins σ H s):X.K.In s.heap:=I.ok.mod.kin.keeps I.bk
theorem Inv.nolimit(I:Inv X pins σ H s):s.heap.NoLimit:=I.ok.mod.nolimit.keeps I.bk
theorem Inv.fr(I:Inv X pins σ H s):∃m,Fr X.base X.env.locals s.heap m:=
 let⟨m,hn,_⟩:=I.loc
 ⟨m,hn,I.bk,Nat.le_trans I.ok.bsz I.ok.above⟩
theorem Inv.lt(I:Inv X pins σ H s):X.env.locals<s.heap.objs.size:=let⟨_,hn,_⟩:=I.loc;hn.lt
theorem Inv.sz(I:Inv X pins σ H s):X.s₀.heap.objs.size<=s.heap.objs.size:=Nat.le_trans I.ok.above (Nat.le_of_lt I.lt)
theorem Inv.nofs(I:Inv X pins σ H s){a:Addr}(h:s.heap.objs.size<=a):a∉X.fs:=λhb=>by
 obtain⟨_,o,ho,_⟩:=I.ok.funs.mem hb;exact absurd (Nat.lt_of_lt_of_le (Heap.lt_size ho) (Nat.le_trans I.sz h)) (Nat.lt_irrefl _)
theorem Inv.cne(I:Inv X pins σ H s):∀x c,X.env.cells.lookup x=some c->c≠X.env.locals:=λx c e z=>by
 obtain⟨v,o,ho,hd⟩:=I.cell x c e;obtain⟨m,⟨o',es,ep,ho',hd',_⟩,_⟩:=I.loc;rw [z,ho']at ho;cases ho;rw [hd']at hd;cases hd
theorem Inv.funs(I:Inv X pins σ H s):s.heap.FunFrames X.base X.outer:=by
 have all:∀(l:List Env),(∀b∈frs l,b∈X.fs)->X.s₀.heap.FunFrames X.base l->s.heap.FunFrames X.base l:=by
  intro l
  induction l with
  |nil=>intro _ _;trivial
  |cons env r ih=>
   intro hs hl;obtain⟨hk,⟨L,o,hf,hn,ho,hd⟩,hr⟩:=hl;have hL:L∈X.fs:=hs L (by unfold frs;rw [List.filterMap_cons,hf];exact List.mem_cons_self);obtain⟨sl,e⟩:=I.base.slot L o ho (I.ok.frf L hL) hL λz=>I.ok.exfs L z hL
   exact⟨hk,⟨L,_,hf,hn,e,hd⟩,ih (λb hb=>hs b (by unfold frs;rw [List.filterMap_cons,hf];exact List.mem_cons_of_mem _ hb)) hr⟩
 exact all X.outer (λ_ hb=>hb) I.ok.funs
theorem Inv.stack(I:Inv X pins σ H s):s.heap.FunFrames X.base X.stack:=by
 rcases I.ok.stk with e|⟨e,hf⟩
 · rw [e];exact I.funs
 · rw [e]
   obtain⟨m,hn,_⟩:=I.loc;refine .cons (by rw [I.ok.kind];decide) hf hn ?_ I.funs;exact Heap.get?_none_of_le (Nat.le_trans I.ok.bsz I.ok.above)
theorem Inv.stkSub(I:Inv X pins σ H s):∀b∈frs X.stack,b∈X.env.locals::X.fs:=λb hb=>by
 rcases I.ok.stk with e|⟨e,hf⟩
 · rw [e]at hb;exact List.mem_cons_of_mem _ hb
 · rw [e]at hb
   unfold frs at hb;rw [List.filterMap_cons,hf]at hb;exact hb
theorem Inv.stkFree(I:Inv X pins σ H s):∀b∈frs X.stack,H b=none:=λb hb=>by
 rcases List.mem_cons.mp (I.stkSub b hb)with e|hb
 · rw [e];exact I.free
 · obtain⟨_,o,ho,_⟩:=I.ok.funs.mem hb
   exact I.base.free b o ho (I.ok.frf b hb) λz=>I.ok.exfs b z hb
theorem Inv.step {g':Array GenState} {t':Nat} {d':Drawn} {ch:List Addr} (I:Inv X pins σ H s)
 (hch:∀b∈ch,(b∈X.ex\/X.s₀.heap.objs.size<=b)/\b≠X.env.locals/\(∀x c,X.env.cells.lookup x=some c->c≠b)/\∀p∈X.pn++pins,p.1≠b)
 (keep:∀b o,b≠X.env.locals->b∉X.fs->b∉ch->s.heap.get? b=some o->H b=none->h'.get? b=some o)
 (slot:∀b o,b≠X.env.locals->b∈X.fs->b∉ch->s.heap.get? b=some o->H b=none->∃sl,h'.get? b=some { o with slots:=sl }) (free:∀b o,b∉ch->s.heap.get? b=some o->H b=none->H' b=none)
 (there:∀b o,b∉ch->s.heap.get? b=some o->∃o',h'.get? b=some o')
 (tups:∀b xs,H b=some (.tup xs)->H' b=some (.tup xs)) (frzs:∀b o u,H b=some (.frz o u)->H' b=some (.frz o u)) (tbls:∀b ps,H b=some (.tbl ps)->∃more,H' b=some (.tbl (ps++more)))
 (ns:∀m,s.heap.Ns X.env.locals m->h'.Ns X.env.locals m) (hok:HOk X.prog X.w H' h') (hg:AllBare g') :
 Inv X pins σ H' { s with heap:=h',gens:=g',drawn:=d',toks:=t' }:=by
 have neL:∀b o,X.s₀.heap.get? b=some o->b≠X.env.locals:=λb o e=>Nat.ne_of_lt (Nat.lt_of_lt_of_le (Heap.lt_size e) I.ok.above)
 have neC:∀b o,X.s₀.heap.get? b=some o->b∉X.ex->b∉ch:=λb o e hx hb=>by
  rcases(hch b hb).1 with z|z
  · exact hx z
  · exact absurd (Nat.lt_of_lt_of_le (Heap.lt_size e) z) (Nat.lt_irrefl _)
 have cellK:∀x c,X.env.cells.lookup x=some c->∀v,s.heap.IsCell c v->h'.IsCell c v:=λx c e v ⟨o,ho,hd⟩=>by
  have nch:c∉ch:=λz=>(hch c z).2.2.1 x c e rfl
  by_cases hc:c∈X.fs
  · obtain⟨sl,q⟩:=slot c o (I.cne x c e) hc nch ho (I.freeC x c e)
    exact⟨_,q,hd⟩
  · exact⟨o,keep c o (I.cne x c e) hc nch ho (I.freeC x c e),hd⟩
 refine⟨I.ok,I.os,hg,⟨λb o e n hb hx => ?_,λb o e n hb hx => ?_,λb o e n hx => ?_,λb o e hx => ?_,λb xs e=>tups b xs (I.base.tups b xs e),λb o xs e=>frzs b o xs (I.base.frzs b o xs e),λb ps e => ?_⟩,?_,λx c e => ?_,?_,λx c e => ?_,λp hp => ?_,hok,I.len,λq hq=>frzs _ _ _ (I.fzs q hq)⟩
 · exact keep b o (neL b o e) hb (neC b o e hx) (I.base.keep b o e n hb hx) (I.base.free b o e n hx)
 · obtain⟨sl,e1⟩:=I.base.slot b o e n hb hx
   obtain⟨sl',e2⟩:=slot b _ (neL b o e) hb (neC b o e hx) e1 (I.base.free b o e n hx);exact⟨sl',e2⟩
 · obtain⟨o',e1⟩:=I.base.there b o e hx
   exact free b o' (neC b o e hx) e1 (I.base.free b o e n hx)
 · obtain⟨o',e1⟩:=I.base.there b o e hx
   exact there b o' (neC b o e hx) e1
 · obtain⟨m1,e1⟩:=I.base.tbls b ps e
   obtain⟨m2,e2⟩:=tbls b _ e1;exact⟨m1++m2,by rw [e2,Array.append_assoc]⟩
 · obtain⟨m,hn,hl⟩:=I.loc
   refine⟨m,ns m hn,λi x v e1 e2 e3 => ?_⟩;obtain⟨u,r,l⟩:=hl i x v e1 e2 e3;refine⟨u,r,?_⟩;rcases l with l|⟨k,c,e,z⟩
   · exact .inl l
   · exact .inr ⟨k,c,e,cellK x c e _ z⟩
 · obtain⟨v,z⟩:=I.cell x c e
   exact⟨v,cellK x c e v z⟩
 · obtain⟨m,⟨o,_,_,ho,_⟩,_⟩:=I.loc
   exact free _ o (λz=>(hch _ z).2.1 rfl) ho I.free
 · obtain⟨v,o,ho,hd⟩:=I.cell x c e
   exact free c o (λz=>(hch c z).2.2.1 x c e rfl) ho (I.freeC x c e)
 · obtain⟨e,n,ne,nf,d⟩:=I.pin p hp
   have nch:p.1∉ch:=λz=>(hch p.1 z).2.2.2 p hp rfl
   exact⟨keep p.1 p.2 ne nf nch e n,free p.1 p.2 nch e n,ne,nf,d⟩
theorem Inv.un{t':Nat}(I:Inv X pins σ H s)(u:Un X.fs [] H H' s.heap h')(hok:HOk X.prog X.w H' h'):Inv X pins σ H' { s with heap:=h',toks:=t' }:=by
 obtain⟨m,⟨o,es,ep,ho,r⟩,_⟩:=id I.loc;obtain⟨sl,hL⟩:=u.any ho I.free (by simp)
 exact I.step (g':=s.gens) (d':=s.drawn) (ch:=[]) (λ_ z=>nomatch z) (λb o _ hb _ e n=>u.keep b o e n hb (by simp)) (λb o _ hb _ e n=>u.slot b o e n hb (by simp)) (λb o _ e n=>u.free b o e n (by simp)) (λb o _ e=>u.there b o e (by simp)) u.tups u.frzs u.tbls (λm' hm=>by
  obtain⟨o',es',ep',ho',r'⟩:=hm;rw [ho]at ho';cases ho';exact⟨_,es',ep',hL,r'⟩) hok I.bare
theorem Inv.call {g':Array GenState} {t':Nat} {d':Drawn} {ch:List Addr} (I:Inv X pins σ H s) (u:Un (frs X.stack) ch H H' s.heap h') (hok:HOk X.prog X.w H' h') (hg:AllBare g')
 (hch:∀b∈ch,(b∈X.ex\/X.s₀.heap.objs.size<=b)/\b≠X.env.locals/\(∀x c,X.env.cells.lookup x=some c->c≠b)/\∀p∈X.pn++pins,p.1≠b) :
 Inv X pins σ H' { s with heap:=h',gens:=g',drawn:=d',toks:=t' }:=by
 obtain⟨m,⟨o,es,ep,ho,r⟩,_⟩:=id I.loc;obtain⟨sl,hL⟩:=u.any ho I.free λz=>(hch _ z).2.1 rfl
 exact I.step (ch:=ch) hch (λb o hL hb hc e n=>u.keep b o e n (λz=>(List.mem_cons.mp (I.stkSub b z)).elim hL hb) hc) (λb o _ _ hc e n=>u.any e n hc) (λb o hc e n=>u.free b o e n hc) (λb o hc e=>u.there b o e hc) u.tups u.frzs u.tbls (λm' hm=>by
  obtain⟨o',es',ep',ho',r'⟩:=hm;rw [ho]at ho';cases ho';exact⟨_,es',ep',hL,r'⟩) hok hg
theorem Inv.turned {t':Nat} {it:Addr} (I:Inv X pins σ H s) (k:∀b o,b≠it->s.heap.get? b=some o->h'.get? b=some o) (hn:H it=none) (hL:it≠X.env.locals)
 (h1:it∈X.ex\/X.s₀.heap.objs.size<=it) (h2:∀x c,X.env.cells.lookup x=some c->c≠it) (h3:∀p∈X.pn++pins,p.1≠it):Inv X pins σ H { s with heap:=h',toks:=t' }:=by
 have nit:∀b u,H b=some u->b≠it:=λb u e z=>by rw [z,hn]at e;cases e
 refine I.step (g':=s.gens) (d':=s.drawn) (ch:=[it]) (λb hb => ?_) (λb o _ _ hc e _=>k b o (λz=>hc (by simp [z])) e) (λb o _ _ hc e _=>⟨o.slots,k b o (λz=>hc (by simp [z])) e⟩) (λ_ _ _ _ n=>n)
  (λb o hc e=>⟨o,k b o (λz=>hc (by simp [z])) e⟩) (λ_ _ e=>e) (λ_ _ _ e=>e) (λb ps e=>⟨#[],by rw [e];simp⟩) (λm hm => ?_) (λb u e => ?_) I.bare
 · have e:b=it:=by simpa using hb
   subst e;exact⟨h1,hL,h2,h3⟩
 · obtain⟨o,es,ep,ho,r⟩:=hm
   exact⟨o,es,ep,k _ o (Ne.symm hL) ho,r⟩
 · refine(I.hok b u e).stay (λc v hc q=>k c v ?_ q) (λ_ q=>q) λ_ _ q=>q
   rcases hc with z|z
   · rw [z];exact nit b u e
   · exact nit c _ z
theorem Inv.tok(I:Inv X pins σ H s)(t:Nat):Inv X pins σ H { s with toks:=t }:=I.un (h':=s.heap) (t':=t) Un.refl I.hok
theorem Inv.kept{t':Nat}(I:Inv X pins σ H s)(k:∀b u,s.heap.get? b=some u->h'.get? b=some u):Inv X pins σ H { s with heap:=h',toks:=t' }:=I.un (Un.kept k) (I.hok.kept k)
theorem Inv.laid{a:Addr}{o:HO}{t':Nat}(I:Inv X pins σ H s)(k:∀b u,s.heap.get? b=some u->h'.get? b=some u)(hp:s.heap.objs.size<=a)(new:ObjOk X.prog X.w (upd H a o) h' a o) :
 Inv X pins σ (upd H a o) { s with heap:=h',toks:=t' }:=I.un (Un.laid k hp (I.hok.fresh hp)) (I.hok.laid k hp new)
theorem Inv.write {x e:Addr} {o:HO} {t':Nat} (I:Inv X pins σ H s) (mu:Mut (H x)) (he:e=x\/H e=some (.own x)) (k:∀b u,b≠e->s.heap.get? b=some u->h'.get? b=some u) (heo:∃u,h'.get? e=some u)
 (new:ObjOk X.prog X.w (upd H x o) h' x o):Inv X pins σ (upd H x o) { s with heap:=h',toks:=t' }:=I.un (Un.write mu he k heo) (I.hok.write mu he k heo new)
theorem Inv.pins_of{pins':List (Addr×Obj)}(I:Inv X pins σ H s)(h:∀p∈pins',s.heap.get? p.1=some p.2/\H p.1=none/\p.1≠X.env.locals/\p.1∉X.fs/\∀v,p.2.data ≠ .cell v):Inv X pins' σ H s:=
 ⟨I.ok,I.os,I.bare,I.base,I.loc,I.cell,I.free,I.freeC,λp hp=>(List.mem_append.mp hp).elim (λz=>I.pin p (List.mem_append_left _ z)) (h p),I.hok,I.len,I.fzs⟩
theorem ZbR{N:List Str}(hN:N.Nodup){i j:Nat}{x:Str}(a:N[i]? = some x)(b:N[j]? = some x):i=j:=by
 obtain⟨h1,e1⟩:=List.getElem?_eq_some_iff.mp a;obtain⟨h2,e2⟩:=List.getElem?_eq_some_iff.mp b;exact(List.getElem_inj hN).mp (e1.trans e2.symm)
theorem ZaT {M:Model} {A:Around} {E:Value->Shared->Prop} {i:Nat} {x:Str} {v:V} {u:Value} {Q:Unit->Shared->Prop} (I:Inv X pins σ H s) (hN:X.N.Nodup) (hi:X.N[i]? = some x) (hx:Loc X.env.scope x) (r:RelV v u)
 (h:∀s',Inv X pins (σ.set i (some v)) H s'->(∃a,Heap.SameBut a s.heap s'.heap/\(a=X.env.locals\/X.env.cells.lookup x=some a))->Q () s') (hf:X.fn x=true\/X.env.scope.names.lookup x=some .local:=by first|exact .inl rfl|exact .inr rfl|assumption):wpAny M A (storeName X.env x u) Q E s:=by
 obtain⟨m,hn,hl⟩:=id I.loc;have hcls:(X.env.scope.kind == .class||(X.env.scope.kind == .module&&X.env.locals != X.env.globals))=false:=by rw [I.ok.kind];rfl
 have hiσ:i<σ.length:=by rw [I.len];exact(List.getElem?_eq_some_iff.mp hi).1
 have cne:=I.cne
 have tracked:∀{a:Addr}{h':Heap},(∃o,s.heap.get? a=some o/\H a=none)->Heap.SameBut a s.heap h'->HOk X.prog X.w H h':=λ{a h'} ha hs b ob e=>by
  obtain⟨_,_,hfree⟩:=ha;refine(I.hok b ob e).stay (λc w' hc q=>(hs.2 c ?_).trans q) (λ_ q=>q) λ_ _ q=>q
  rintro rfl
  rcases hc with rfl|hc
  · rw [hfree]at e;cases e
  · rw [hfree]at hc;cases hc
 rcases hx with hk|hk
 · refine wpAny_storeName_local hk hn (λh' hn' hs => ?_) hcls
   obtain⟨oL,_,_,hoL,_⟩:=id hn;refine h _ ⟨I.ok,I.os,I.bare,⟨λb o e n hb hx => ?_,λb o e n hb hx => ?_,I.base.free,λb o e hx => ?_,I.base.tups,I.base.frzs,I.base.tbls⟩,⟨_,hn',λj y v' e1 e2 e3 => ?_⟩,λy c e => ?_,I.free,I.freeC,λp hp => ?_,tracked ⟨oL,hoL,I.free⟩ hs,by simpa using I.len,I.fzs⟩ ⟨_,hs,.inl rfl⟩
   · exact(hs.2 b (Nat.ne_of_lt (Nat.lt_of_lt_of_le (Heap.lt_size e) I.ok.above))).trans (I.base.keep b o e n hb hx)
   · obtain⟨sl,e1⟩:=I.base.slot b o e n hb hx
     exact⟨sl,(hs.2 b (Nat.ne_of_lt (Nat.lt_of_lt_of_le (Heap.lt_size e) I.ok.above))).trans e1⟩
   · obtain⟨o',e1⟩:=I.base.there b o e hx
     exact⟨o',(hs.2 b (Nat.ne_of_lt (Nat.lt_of_lt_of_le (Heap.lt_size e) I.ok.above))).trans e1⟩
   · by_cases hj:j=i
     · subst hj
       rw [hi]at e1;cases e1;rw [List.getElem?_set_self hiσ]at e2;cases e2;exact⟨u,r,.inl ⟨hk,by simp⟩⟩
     · rw [List.getElem?_set_ne (Ne.symm hj)]at e2
       obtain⟨u',r',q⟩:=hl j y v' e1 e2 e3;refine⟨u',r',?_⟩;rcases q with⟨k,e⟩|⟨k,c,e,z⟩
       · refine .inl ⟨k,?_⟩
         have:y≠x:=λe=>hj (ZbR hN e1 (e▸hi))
         simp [this,e]
       · exact .inr ⟨k,c,e,z.sameBut hs (cne y c e)⟩
   · obtain⟨w',z⟩:=I.cell y c e
     exact⟨w',z.sameBut hs (cne y c e)⟩
   · obtain⟨e,n,ne,nf,d⟩:=I.pin p hp
     exact⟨(hs.2 p.1 ne).trans e,n,ne,nf,d⟩
 · have hfn : X.fn x = true := by
    rcases hf with z|z
    · exact z
    · rw [z]at hk;cases hk
   obtain⟨c,hc⟩:=I.ok.has x (.inl hk);obtain⟨w',z⟩:=I.cell x c hc;refine wpAny_storeName_cell I.ok.kind hk hc z (λh' hc' hs => ?_);obtain⟨oc,hoc,hocd⟩:=id z;refine h { s with heap:=h' } ⟨I.ok,I.os,I.bare,⟨λb o e n hb hx => ?_,λb o e n hb hx => ?_,I.base.free,λb o e hx => ?_,I.base.tups,I.base.frzs,I.base.tbls⟩,⟨m,hn.sameBut hs (Ne.symm (cne x c hc)),λj y v' e1 e2 e3 => ?_⟩,λy c' e => ?_,I.free,I.freeC,λp hp => ?_,tracked ⟨oc,hoc,I.freeC x c hc⟩ hs,by simpa using I.len,I.fzs⟩ ⟨c,hs,.inr hc⟩
   · exact(hs.2 b (Nat.ne_of_lt (Nat.lt_of_lt_of_le (Heap.lt_size e) (I.ok.cab x c hfn hc)))).trans (I.base.keep b o e n hb hx)
   · obtain⟨sl,e1⟩:=I.base.slot b o e n hb hx
     exact⟨sl,(hs.2 b (Nat.ne_of_lt (Nat.lt_of_lt_of_le (Heap.lt_size e) (I.ok.cab x c hfn hc)))).trans e1⟩
   · obtain⟨o',e1⟩:=I.base.there b o e hx
     exact⟨o',(hs.2 b (Nat.ne_of_lt (Nat.lt_of_lt_of_le (Heap.lt_size e) (I.ok.cab x c hfn hc)))).trans e1⟩
   · by_cases hj:j=i
     · subst hj
       rw [hi]at e1;cases e1;rw [List.getElem?_set_self hiσ]at e2;cases e2;exact⟨u,r,.inr ⟨.inl hk,c,hc,hc'⟩⟩
     · rw [List.getElem?_set_ne (Ne.symm hj)]at e2
       obtain⟨u',r',q⟩:=hl j y v' e1 e2 e3;refine⟨u',r',?_⟩;rcases q with q|⟨k,c',e,z'⟩
       · exact .inl q
       · refine .inr ⟨k,c',e,z'.sameBut hs ?_⟩
         rintro rfl
         exact hj (ZbR hN e1 (I.ok.inj _ _ _ e hc▸hi))
   · by_cases hcc:c'=c
     · subst hcc;exact⟨_,hc'⟩
     · obtain⟨w2,z2⟩:=I.cell y c' e
       exact⟨w2,z2.sameBut hs hcc⟩
   · obtain⟨e,n,ne,nf,d⟩:=I.pin p hp
     refine⟨(hs.2 p.1 ?_).trans e,n,ne,nf,d⟩;intro q;rw [q,hoc]at e;have q':oc=p.2:=Option.some.inj e;exact d w' (by rw [<-q'];exact hocd)
theorem Jt {M:Model} {A:Around} {E:Value->Shared->Prop} {i:Nat} {x:Str} {v:V} {u:Value} {Q:Unit->Shared->Prop} (I:Inv X pins σ H s) (hN:X.N.Nodup) (hi:X.N[i]? = some x) (hx:Loc X.env.scope x) (r:RelV v u)
 (h:∀s',Inv X pins (σ.set i (some v)) H s'->Q () s') (hf:X.fn x=true\/X.env.scope.names.lookup x=some .local:=by first|exact .inl rfl|exact .inr rfl|assumption):wpAny M A (storeName X.env x u) Q E s:=
 ZaT I hN hi hx r (λs' I' _=>h s' I') hf
theorem Inv.call' {s':Shared} {ch:List Addr} (I:Inv X pins σ H s) (ho:s'.os=s.os) (u:Un (frs X.stack) ch H H' s.heap s'.heap) (hok:HOk X.prog X.w H' s'.heap) (hg:AllBare s'.gens)
 (hch:∀b∈ch,(b∈X.ex\/X.s₀.heap.objs.size<=b)/\b≠X.env.locals/\(∀x c,X.env.cells.lookup x=some c->c≠b)/\∀p∈X.pn++pins,p.1≠b):Inv X pins σ H' s':=by
 obtain⟨h',g',d',t',o'⟩:=s';have e:o'=s.os:=ho;subst e;exact I.call (g':=g') (t':=t') (d':=d') u hok hg hch
end
abbrev XK:=Value->Option Addr->Hp->Prop
abbrev St:=List (Option V)
abbrev VK:=V->Hp->Prop
abbrev TE:=St->Hp->VK->Prop
abbrev TT:=St->Hp->(Bool->Hp->Prop)->Prop
abbrev TA:=St->Hp->(List V->Hp->Prop)->Prop
structure Ends where
 nx:St->Hp->Prop
 rt:VK
 bk:St->Hp->Prop:=λ_ _=>False
 ct:St->Hp->Prop:=λ_ _=>False
abbrev TS:=Ends->St->Hp->Prop
def EP(X:Cx)(pins:List (Addr×Obj))(σ:St)(Q:VK)(u:Value)(s':Shared):Prop:=∃v H',Inv X pins σ H' s'/\RelV v u/\Q v H'
def TP(X:Cx)(pins:List (Addr×Obj))(σ:St)(Q:Bool->Hp->Prop)(b:Bool)(s':Shared):Prop:=∃H',Inv X pins σ H' s'/\Q b H'
def AP(X:Cx)(pins:List (Addr×Obj))(σ:St)(Q:List V->Hp->Prop)(us:List Value)(s':Shared):Prop:=∃vs H',Inv X pins σ H' s'/\Vals vs us/\Q vs H'
def SP(X:Cx)(pins:List (Addr×Obj))(D:Ends)(f:Flow)(s':Shared):Prop:=
 match f with
 | .next=>∃σ' H',Inv X pins σ' H' s'/\D.nx σ' H'
 | .brk=>∃σ' H',Inv X pins σ' H' s'/\D.bk σ' H'
 | .cont=>∃σ' H',Inv X pins σ' H' s'/\D.ct σ' H'
 | .ret u=>∃v σ' H',Inv X pins σ' H' s'/\RelV v u/\D.rt v H'
def PE(X:Cx)(e:Expr)(t:TE):Prop:=
 ∀(pins:List (Addr×Obj))(s:Shared)(σ:St)(H:Hp)(Q:VK),Inv X pins σ H s->t σ H Q->wpAny (model X.prog X.w) X.A (eval e X.env) (EP X pins σ Q) X.xe s
def PT(X:Cx)(e:Expr)(t:TT):Prop:=
 ∀(pins:List (Addr×Obj))(s:Shared)(σ:St)(H:Hp)(Q:Bool->Hp->Prop),Inv X pins σ H s->t σ H Q->wpAny (model X.prog X.w) X.A (isTrue e X.env (eval e X.env)) (TP X pins σ Q) X.xe s
def PW(X:Cx)(e:Expr)(t:TT):Prop:=
 ∀(whole:Sem Value)(pins:List (Addr×Obj))(s:Shared)(σ:St)(H:Hp)(Q:Bool->Hp->Prop),Inv X pins σ H s->t σ H Q->wpAny (model X.prog X.w) X.A (isTrue e X.env whole) (TP X pins σ Q) X.xe s
theorem PW.pt{X:Cx}{e:Expr}{t:TT}(h:PW X e t):PT X e t:=h _
def PA(X:Cx)(es:List Expr)(t:TA):Prop:=
 ∀(pos:Pos)(pins:List (Addr×Obj))(s:Shared)(σ:St)(H:Hp)(Q:List V->Hp->Prop),Inv X pins σ H s->t σ H Q->wpAny (model X.prog X.w) X.A (spliced (backTo pos (starEach es X.env))) (AP X pins σ Q) X.xe s
def PS(X:Cx)(st:Stmt)(t:TS):Prop:=
 ∀(pins:List (Addr×Obj))(s:Shared)(σ:St)(H:Hp)(D:Ends),Inv X pins σ H s->t D σ H->wpAny (model X.prog X.w) X.A (exec st X.env) (SP X pins D) X.xe s
def PSs(X:Cx)(st:List Stmt)(t:TS):Prop:=
 ∀(pins:List (Addr×Obj))(s:Shared)(σ:St)(H:Hp)(D:Ends),Inv X pins σ H s->t D σ H->wpAny (model X.prog X.w) X.A (execs st X.env) (SP X pins D) X.xe s
theorem thn{α:Type}{t:Sem α}{Q Q':α->Shared->Prop}{M:Model}{A:Around}{E:Value->Shared->Prop}{s:Shared}(h:wpAny M A t Q E s)(hQ:∀a s,Q a s->Q' a s):wpAny M A t Q' E s:=wpAny_mono h hQ λ_ _ x=>x
end L2
namespace L2
open PySem PySem.Spec PyProof.Rows
section
variable{X:Cx}
def Zq(i:Nat):TE:=λσ H Q=>∃v,σ[i]? = some (some v)/\Q v H
def tC(v:V):TE:=λ_ H Q=>Q v H
theorem Zfh {i:Nat} {x:Str} {pos:Pos} (hN:X.N[i]? = some x) (hv:Vis X.env.scope x) (hd:(x == ("__debug__" : Str))=false:=by decide) (hcd:(x == ("__classdict__" : Str))=false:=by decide):PE X (.Name x pos) (Zq i):=by
 intro pins s σ H Q I h;obtain⟨v,e,h⟩:=h;obtain⟨m,hn,hl⟩:=I.loc;obtain⟨u,r,l⟩:=hl i x v hN e hv;have fin:EP X pins σ Q u s:=⟨v,H,I,r,h⟩
 rcases l with⟨hk,hm⟩|⟨hk,c,hc,hcell⟩
 · exact wpAny_Name (wpAny_loadName_local I.ok.kind hk hn hm fin) hd
 · rcases hk with hk|hk
   · exact wpAny_Name (wpAny_loadName_cell I.ok.kind hk hc hcell fin) hd
   · exact wpAny_Name (wpAny_loadName_free I.ok.kind hk hc hcell fin hcd) hd
theorem Zy{i j pos}:PE X (.Constant (.int i) j pos) (tC (.int i)):=λ_ _ _ H _ I h=>wpAny_Constant_int ⟨.int i,H,I.tok _,⟨_,rfl⟩,h⟩
theorem Qb{b j pos}:PE X (.Constant (.bool b) j pos) (tC (.bl b)):=λ_ _ _ H _ I h=>Constant_bool ⟨.bl b,H,I,rfl,h⟩
theorem X5{j pos}:PE X (.Constant .none j pos) (tC .non):=λ_ _ _ H _ I h=>Constant_none ⟨.non,H,I,rfl,h⟩
theorem ZhO{x j pos}:PE X (.Constant (.str x) j pos) (tC (.str x)):=λ_ _ _ H _ I h=>Calls.Constant_str ⟨.str x,H,I.tok _,⟨_,rfl⟩,h⟩
def Gl(X:Cx)(x:Str):Prop:=X.env.kindOf x=some .globalImplicit
theorem Ju {E:Value->Shared->Prop} {pins:List (Addr×Obj)} {s:Shared} {σ:St} {H:Hp} {x:Str} {u:Value} {pos:Pos} {Q:Value->Shared->Prop} (I:Inv X pins σ H s) (hg:Gl X x) (hm:X.mg x=some u) (h:Q u s)
 (hd:(x == ("__debug__" : Str))=false:=by decide):wpAny (model X.prog X.w) X.A (eval (.Name x pos) X.env) Q E s:=
 Calls.Name_function_global I.ok.kind hg (Calls.loadGlobal_global (by rw [I.ok.glob];exact I.mod.glob.keeps I.bk) hm h) hd
theorem Vn {E:Value->Shared->Prop} {pins:List (Addr×Obj)} {s:Shared} {σ:St} {H:Hp} {x:Str} {u:Value} {pos:Pos} {Q:Value->Shared->Prop} (I:Inv X pins σ H s) (hg:Gl X x) (hm:X.mg x=none) (hv:bootBuiltins x=some u) (h:Q u s)
 (hn:x ≠ "__name__" := by decide) (hd:(x == ("__debug__" : Str))=false:=by decide):wpAny (model X.prog X.w) X.A (eval (.Name x pos) X.env) Q E s:=by
 obtain⟨mb,h1,h2⟩:=I.mod.blt;exact Calls.Name_function_global I.ok.kind hg (Calls.loadGlobal_builtin (by rw [I.ok.glob];exact I.mod.glob.keeps I.bk) hm (by rw [I.ok.blt];exact h1.keeps I.bk) ((h2 x hn).trans hv) h) hd
theorem Zc1 {x:Str} {v:V} {u:Value} {pos:Pos} (hg:Gl X x) (hm:X.mg x=none) (hv:bootBuiltins x=some u) (r:RelV v u) (hn:x ≠ "__name__" := by decide) (hd:(x == ("__debug__" : Str))=false:=by decide):PE X (.Name x pos) (tC v):=
 λ_ _ _ H _ I h=>Vn I hg hm hv ⟨v,H,I,r,h⟩ hn hd
variable{a b:Expr}{ta tb:TE}{pos:Pos}
def PC(X:Cx)(op:CmpOp)(a b:Expr)(t:TE):Prop:=
 ∀(pins:List (Addr×Obj))(s:Shared)(σ:St)(H:Hp)(Q:VK),Inv X pins σ H s->t σ H Q ->
  wpAny (model X.prog X.w) X.A (eval a X.env) (λv s₁=>wpAny (model X.prog X.w) X.A (eval b X.env) (λu s₂=>wpAny (model X.prog X.w) X.A (compareOp op v u) (EP X pins σ Q) X.xe s₂) X.xe s₁) X.xe s
theorem ZbS(b:Expr){op:CmpOp}(h:op ≠ .In)(h2:op ≠ .NotIn):behindInMarks op b=false:=by
 have e1:(op == CmpOp.In)=false:=by cases op<;>first|rfl|exact absurd rfl h
 have e2:(op == CmpOp.NotIn)=false:=by cases op<;>first|rfl|exact absurd rfl h2
 cases b<;>simp [behindInMarks,e1,e2]
def ZjX(ta:TE):TE:=λσ H Q=>ta σ H λx H1=>Q (.bl (decide (x = .non))) H1
def Zhn(ta:TE):TE:=λσ H Q=>ta σ H λx H1=>Q (.bl (!decide (x = .non))) H1
theorem RelV.none_iff{x:V}{v:Value}(r:RelV x v):(v == Value.none)=decide (x = .non):=by
 cases x with
 |non=>cases r;rfl
 |bl _=>cases r;rfl
 |int _=>obtain⟨t,rfl⟩:=r;rfl
 |str _=>obtain⟨t,rfl⟩:=r;rfl
 |byt _=>obtain⟨t,rfl⟩:=r;rfl
 |flt _=>obtain⟨t,rfl⟩:=r;rfl
 |ref _=>cases r;rfl
 |ty _=>cases r;rfl
theorem Jv{j pos'}(ha:PE X a ta):PC X .Is a (.Constant .none j pos') (ZjX ta):=by
 intro pins s σ H Q I h;refine thn (ha pins s σ H _ I h) λv s1 ⟨x,H1,I1,r1,q1⟩ => ?_
 exact Constant_none (is_none_gen ⟨.bl _,H1,I1,by rw [r1.none_iff];rfl,q1⟩)
theorem Jw{j pos'}(ha:PE X a ta):PC X .IsNot a (.Constant .none j pos') (Zhn ta):=by
 intro pins s σ H Q I h;refine thn (ha pins s σ H _ I h) λv s1 ⟨x,H1,I1,r1,q1⟩ => ?_
 exact Constant_none (isnot_none_gen ⟨.bl _,H1,I1,by rw [r1.none_iff];rfl,q1⟩)
def tB(t:TE):TT:=λσ H Q=>t σ H λx H1=>∃c,x = .bl c/\Q c H1
theorem ZhP{op:CmpOp}{t:TE}(h:PC X op a b t)(h1:behindInMarks op b=false:=by first|exact ZbS _ (by decide) (by decide)|rfl):PE X (.Compare a [op] [b] pos) t:=λpins s σ H Q I hw=>wpAny_Compare1 (h pins s σ H Q I hw) h1
theorem Vo{op:CmpOp}{t:TE}(h:PC X op a b t)(h1:behindInMarks op b=false:=by first|exact ZbS _ (by decide) (by decide)|rfl):PT X (.Compare a [op] [b] pos) (tB t):=by
 intro pins s σ H Q I hw;refine wpAny_isTrue_Compare1 (thn (h pins s σ H _ I hw) λv s1 h1=>thn h1 λu s2 h2=>thn h2 λc s3 ⟨x,H1,I1,r1,q1⟩ => ?_) h1;obtain⟨d,rfl,q⟩:=q1;cases r1;exact wpAny_truthy_bool ⟨H1,I1,q⟩
variable{tA tB':TT}{rest:List Expr}
def ZjY(t u:TT):TT:=λσ H Q=>t σ H λc H1=>if c=true then u σ H1 Q else Q false H1
theorem Jx(ha:PT X a tA):PW X (.BoolOp .And [a] pos) tA:=by
 intro wh pins s σ H Q I h;refine isTrue_and (thn (ha pins s σ H Q I h) λc s1 e => ?_);cases c with
 |true=>exact isTrue_and_nil e
 |false=>exact e
theorem Qc(ha:PT X a tA)(hb:PW X (.BoolOp .And (b::rest) pos) tB'):PW X (.BoolOp .And (a::b::rest) pos) (ZjY tA tB'):=by
 intro wh pins s σ H Q I h;refine isTrue_and (thn (ha pins s σ H _ I h) λc s1 ⟨H1,I1,q1⟩ => ?_);cases c with
 |true=>exact hb wh pins s1 σ H1 Q I1 q1
 |false=>exact⟨H1,I1,q1⟩
def Zho(ta tb:TE):TE:=λσ H Q=>ta σ H λx H1=>∃c,x = .bl c/\if c=true then tb σ H1 Q else Q (.bl false) H1
def Zhp(ta:TE):TE:=λσ H Q=>ta σ H λx H1=>∃c,x = .bl c/\Q (.bl (!c)) H1
theorem ZhQ{op}{t:TE}(h:PE X a t):PE X (.BoolOp op [a] pos) t:=λpins s σ H Q I hw=>BoolOp_one (h pins s σ H Q I hw)
theorem Zfi(ha:PE X a ta)(hb:PE X (.BoolOp .And (b::rest) pos) tb):PE X (.BoolOp .And (a::b::rest) pos) (Zho ta tb):=by
 intro pins s σ H Q I h;refine BoolOp_and (thn (ha pins s σ H _ I h) λv s1 ⟨x,H1,I1,r1,q1⟩ => ?_);obtain⟨c,rfl,q1⟩:=q1;cases r1;refine wpAny_truthy_bool ?_;cases c with
 |true=>exact hb pins s1 σ H1 Q I1 q1
 |false=>exact⟨.bl false,H1,I1,rfl,q1⟩
theorem ZhR(ha:PE X a ta):PE X (.UnaryOp .Not a pos) (Zhp ta):=by
 intro pins s σ H Q I h;refine UnaryOp_ (thn (ha pins s σ H _ I h) λv s1 ⟨x,H1,I1,r1,q1⟩ => ?_);obtain⟨c,rfl,q1⟩:=q1;cases r1;exact not_of (wpAny_truthy_bool ⟨.bl (!c),H1,I1,rfl,q1⟩)
def tIf(t:TT)(ta tb:TE):TE:=λσ H Q=>t σ H λc H1=>if c=true then ta σ H1 Q else tb σ H1 Q
theorem ZbT{c:Expr}(hc:PT X c tA)(ha:PE X a ta)(hb:PE X b tb):PE X (.IfExp c a b pos) (tIf tA ta tb):=by
 intro pins s σ H Q I h;refine wpAny_IfExp (thn (hc pins s σ H _ I h) λd s1 ⟨H1,I1,q1⟩ => ?_);cases d with
 |true=>exact ha pins s1 σ H1 Q I1 q1
 |false=>exact hb pins s1 σ H1 Q I1 q1
end
end L2
namespace L2
open PySem PySem.Spec PyProof.Rows
def SqL(K:PySem.W.Frag)(H:Hp)(a:Addr)(xs:List V):Prop:=
 Rd H a (.lst xs) \/
  ∃(o:Obj) (its:Array Value) (n:Nat),K.lookup a=some o/\o.cls = .type "list" /\ o.dict=none/\o.data = .seq its n/\its.size<=sizeLine/\Vals xs its.toList
def SqT(K:PySem.W.Frag)(H:Hp)(a:Addr)(xs:List V):Prop:=
 Rd H a (.tup xs) \/
  ∃(o:Obj) (its:Array Value) (n:Nat),K.lookup a=some o/\o.cls = .type "tuple" /\ o.data = .seq its n/\its.size<=sizeLine/\Vals xs its.toList
def Zkp:Value->Option V
 | .none=>some .non
 | .bool b=>some (.bl b)
 | .int i _=>some (.int i)
 | .str x _=>some (.str x)
 | .bytes b _=>some (.byt b)
 | .float b _=>some (.flt b)
 | .ref a=>some (.ref a)
 | .type n=>some (.ty n)
 |_=>none
theorem RelV.abs{x:V}{u:Value}(r:RelV x u):Zkp u=some x:=by
 cases x with
 |non=>cases r;rfl
 |bl _=>cases r;rfl
 |int _=>obtain⟨t,rfl⟩:=r;rfl
 |str _=>obtain⟨t,rfl⟩:=r;rfl
 |byt _=>obtain⟨t,rfl⟩:=r;rfl
 |flt _=>obtain⟨t,rfl⟩:=r;rfl
 |ref _=>cases r;rfl
 |ty _=>cases r;rfl
theorem RelV.inj{x y:V}{u:Value}(r:RelV x u)(q:RelV y u):x=y:=Option.some.inj (r.abs.symm.trans q.abs)
theorem Vals.inj:∀{xs ys:List V}{us:List Value},Vals xs us->Vals ys us->xs=ys
 |_,_,_,.nil,.nil=>rfl
 |_,_,_,.cons r t,.cons r' t'=>by rw [r.inj r',Vals.inj t t']
section
variable{X:Cx}{pins:List (Addr×Obj)}{σ:St}{H:Hp}{s:Shared}{a:Addr}{xs ys:List V}
theorem SqL.of{K:PySem.W.Frag}(h:H a=some (.lst xs)):SqL K H a xs := .inl (.inl h)
theorem SqT.of{K:PySem.W.Frag}(h:H a=some (.tup xs)):SqT K H a xs := .inl (.inl h)
theorem Inv.list(I:Inv X pins σ H s)(h:SqL X.K H a xs):∃its:List Value,Vals xs its/\PlainL s.heap a its.toArray/\xs.length<=sizeLine:=by
 rcases h with h|⟨o,its,n,hk,hc,hd,hs,hz,r⟩
 · obtain⟨z,its,n,r,e⟩:=h.ok I.hok
   exact⟨its,r,⟨_,n,e,rfl,rfl,rfl⟩,z⟩
 · refine⟨its.toList,r,⟨o,n,I.kIn a o hk,hc,hd,by simpa using hs⟩,?_⟩
   have e:=r.length;simp only [Array.length_toList]at e;omega
theorem Inv.tuple(I:Inv X pins σ H s)(h:SqT X.K H a xs):∃its:List Value,Vals xs its/\IsTup s.heap a its.toArray/\xs.length<=sizeLine:=by
 rcases h with h|⟨o,its,n,hk,hc,hs,hz,r⟩
 · obtain⟨z,its,r,p⟩:=h.ok I.hok
   exact⟨its,r,p.tup,z⟩
 · refine⟨its.toList,r,⟨o,I.kIn a o hk,hc,n,by simpa using hs⟩,?_⟩
   have e:=r.length;simp only [Array.length_toList]at e;omega
theorem Inv.list_inj(I:Inv X pins σ H s)(h:SqL X.K H a xs)(h':SqL X.K H a ys):xs=ys:=by
 obtain⟨its,r,⟨o,n,e,_,_,d⟩,_⟩:=I.list h;obtain⟨its',r',⟨o',n',e',_,_,d'⟩,_⟩:=I.list h';rw [e]at e';cases e';rw [d]at d';injection d' with d1 _
 have:its=its':=by simpa using congrArg Array.toList d1
 subst this;exact r.inj r'
theorem Inv.tuple_inj(I:Inv X pins σ H s)(h:SqT X.K H a xs)(h':SqT X.K H a ys):xs=ys:=by
 obtain⟨its,r,⟨o,e,_,n,d⟩,_⟩:=I.tuple h;obtain⟨its',r',⟨o',e',_,n',d'⟩,_⟩:=I.tuple h';rw [e]at e';cases e';rw [d]at d';injection d' with d1 _
 have:its=its':=by simpa using congrArg Array.toList d1
 subst this;exact r.inj r'
end
abbrev Cx.wish(X:Cx)(E:Value->Shared->Prop):Cx:={ X with xe:=E }
abbrev Cx.nox(X:Cx):Cx:=X.wish λ_ _=>False
theorem Cx.Ok.wish{X:Cx}(ok:X.Ok)(E:Value->Shared->Prop):(X.wish E).Ok:=
 ⟨ok.mod,ok.kind,ok.glob,ok.blt,ok.above,ok.inj,ok.has,ok.cab,ok.hd,ok.frames,ok.stk,ok.exf,ok.bs,ok.bsz,ok.noex,ok.exfs,ok.funs,ok.frf,ok.tb⟩
theorem Cx.Ok.unwish{X:Cx}{E:Value->Shared->Prop}(ok:(X.wish E).Ok):X.Ok:=
 ⟨ok.mod,ok.kind,ok.glob,ok.blt,ok.above,ok.inj,ok.has,ok.cab,ok.hd,ok.frames,ok.stk,ok.exf,ok.bs,ok.bsz,ok.noex,ok.exfs,ok.funs,ok.frf,ok.tb⟩
section
variable{X:Cx}{pins:List (Addr×Obj)}{σ:St}{H:Hp}{s:Shared}{E:Value->Shared->Prop}
theorem Inv.wish(I:Inv X pins σ H s)(E:Value->Shared->Prop):Inv (X.wish E) pins σ H s:=⟨I.ok.wish E,I.os,I.bare,I.base,I.loc,I.cell,I.free,I.freeC,I.pin,I.hok,I.len,I.fzs⟩
theorem Inv.unwish(I:Inv (X.wish E) pins σ H s):Inv X pins σ H s:=⟨I.ok.unwish,I.os,I.bare,I.base,I.loc,I.cell,I.free,I.freeC,I.pin,I.hok,I.len,I.fzs⟩
theorem SP.unwish{D:Ends}{f:Flow}{s':Shared}(h:SP (X.wish E) pins D f s'):SP X pins D f s':=by
 cases f with
 |next=>obtain⟨σ',H',I,q⟩:=h;exact⟨σ',H',I.unwish,q⟩
 |brk=>obtain⟨σ',H',I,q⟩:=h;exact⟨σ',H',I.unwish,q⟩
 |cont=>obtain⟨σ',H',I,q⟩:=h;exact⟨σ',H',I.unwish,q⟩
 |ret u=>obtain⟨v,σ',H',I,r,q⟩:=h;exact⟨v,σ',H',I.unwish,r,q⟩
theorem PSs.nox{st:List Stmt}{t:TS}(h:PSs X.nox st t):PSs X st t:=λpins s σ H D I hw=>
 wpAny_mono (h pins s σ H D (I.wish _) hw) (λ_ _ q=>q.unwish) λ_ _ z=>False.elim z
end
section
variable{X:Cx}{st:Stmt}{rest:List Stmt}{t u:TS}{e:Expr}{te:TE}{pos:Pos}
def tNext:TS:=λD σ H=>D.nx σ H
def ZS(t u:TS):TS:=λD σ H=>t { D with nx:=u D } σ H
theorem YU:PSs X [] tNext:=λ_ _ σ H _ I h=>wpAny_execs_nil ⟨σ,H,I,h⟩
theorem Zn(h1:PS X st t)(h2:PSs X rest u):PSs X (st::rest) (ZS t u):=by
 intro pins s σ H D I h;refine wpAny_execs_cons (thn (h1 pins s σ H { D with nx:=u D } I h) λf s1 q => ?_);cases f with
 |next=>
  obtain⟨σ',H',I',q⟩:=q;exact h2 pins s1 σ' H' D I' q
 |ret v=>exact q
 |brk=>exact q
 |cont=>exact q
theorem Zu(h1:PS X st t):PSs X [st] t:=by
 intro pins s σ H D I h;refine wpAny_execs_cons (thn (h1 pins s σ H D I h) λf s1 q => ?_);cases f with
 |next=>exact wpAny_execs_nil q
 |ret v=>exact q
 |brk=>exact q
 |cont=>exact q
theorem Inv.quiet{pins:List (Addr×Obj)}{σ:St}{H:Hp}{s:Shared}(I:Inv X pins σ H s):interactive X.env=false:=by simp [interactive,I.ok.kind]
def X6(te:TE):TS:=λD σ H=>te σ H λ_ H1=>D.nx σ H1
theorem Xh(he:PE X e te)(hs:swapsWith e none pos.line X.env=pure false:=by rfl):PS X (.Expr e pos) (X6 te):=by
 intro pins s σ H D I h;exact wpAny_Expr_any (thn (he pins s σ H _ I h) λv s1 ⟨x,H1,I1,r1,q1⟩=>⟨σ,H1,I1,q1⟩) I.quiet hs
def V1(te:TE):TS:=λD σ H=>te σ H D.rt
theorem Yd(he:PE X e te):PS X (.Return (some e) pos) (V1 te):=by
 intro pins s σ H D I h;exact wpAny_Return_some (thn (he pins s σ H _ I h) λv s1 ⟨x,H1,I1,r1,q1⟩=>⟨x,σ,H1,I1,r1,q1⟩)
def Qd(c:TT)(t u:TS):TS:=λD σ H=>c σ H λb H1=>if b=true then t D σ H1 else u D σ H1
theorem YV{c:Expr}{a b:List Stmt}{tc:TT}(hc:PT X c tc)(ha:PSs X a t)(hb:PSs X b u):PS X (.If c a b pos) (Qd tc t u):=by
 intro pins s σ H D I h;refine wpAny_If (thn (hc pins s σ H _ I h) λd s1 ⟨H1,I1,q1⟩ => ?_);cases d with
 |true=>exact ha pins s1 σ H1 D I1 q1
 |false=>exact hb pins s1 σ H1 D I1 q1
end
abbrev TG:=V->St->Hp->(St->Hp->Prop)->Prop
abbrev TGs:=List V->St->Hp->(St->Hp->Prop)->Prop
def PG(X:Cx)(target:Expr)(t:TG):Prop:=
 ∀(pins:List (Addr×Obj))(s:Shared)(σ:St)(H:Hp)(v:V)(u:Value)(Q:St->Hp->Prop),Inv X pins σ H s->RelV v u->t v σ H Q ->
  wpAny (model X.prog X.w) X.A (assign target X.env u) (λ_ s'=>∃σ' H',Inv X pins σ' H' s'/\Q σ' H') X.xe s
def PGs(X:Cx)(ts:List Expr)(t:TGs):Prop:=
 ∀(pins:List (Addr×Obj))(s:Shared)(σ:St)(H:Hp)(vs:List V)(us:List Value)(Q:St->Hp->Prop),Inv X pins σ H s->Vals vs us->t vs σ H Q ->
  wpAny (model X.prog X.w) X.A (assignInOrder ((assignEach ts X.env).map (·.2)) us) (λ_ s'=>∃σ' H',Inv X pins σ' H' s'/\Q σ' H') X.xe s
abbrev TSet:=V->V->V->Hp->(Hp->Prop)->Prop
def ZjZ(X:Cx)(t:TSet):Prop:=
 ∀(pins:List (Addr×Obj))(s:Shared)(σ:St)(H:Hp)(o i v:V)(ov iv u:Value)(Q:Hp->Prop),Inv X pins σ H s->RelV o ov->RelV i iv->RelV v u->t o i v H Q ->
  wpAny (model X.prog X.w) X.A (setItem ov iv u) (λ_ s'=>∃H',Inv X pins σ H' s'/\Q H') X.xe s
section
variable{X:Cx}{pos:Pos}
def ZG(i:Nat):TG:=λv σ H Q=>Q (σ.set i (some v)) H
theorem ZU{i:Nat}{x:Str}(hN:X.N.Nodup)(hi:X.N[i]? = some x:=by rfl)(hx:Loc X.env.scope x:=by first|exact Or.inl rfl|exact Or.inr rfl)(hf:X.fn x=true\/X.env.scope.names.lookup x=some .local:=by first|exact .inl rfl|exact .inr rfl|assumption):PG X (.Name x pos) (ZG i):=by
 intro pins s σ H v u Q I r h;exact wpAny_assign_Name (Jt I hN hi hx r (λs' I'=>⟨_,H,I',h⟩) hf)
def gNil:TGs:=λvs σ H Q=>vs=[]/\Q σ H
def Qe(t:TG)(u:TGs):TGs:=λvs σ H Q=>∃v r,vs=v::r/\t v σ H λσ' H'=>u r σ' H' Q
theorem Zc2:PGs X [] gNil:=by
 intro pins s σ H vs us Q I r h;obtain⟨e,h⟩:=h;subst e;cases r;exact assignInOrder_nil ⟨σ,H,I,h⟩
theorem Qf {e:Expr} {es:List Expr} {t:TG} {u:TGs} (h1:PG X e t) (h2:PGs X es u)
 (hs:(assignEach (e::es) X.env).map (·.2)=assign e X.env::(assignEach es X.env).map (·.2):=by rfl):PGs X (e::es) (Qe t u):=by
 intro pins s σ H vs us Q I r h;obtain⟨v,vr,e1,h⟩:=h;subst e1;cases r with
 |cons r rr=>
  rw [hs];refine assignInOrder_cons (thn (h1 pins s σ H _ _ _ I r h) λ_ s1 ⟨σ1,H1,I1,q1⟩ => ?_);exact h2 pins s1 σ1 H1 _ _ Q I1 rr q1
def Qg(K:PySem.W.Frag)(n:Nat)(t:TGs):TG:=λv σ H Q=>∃a xs,v = .ref a/\SqT K H a xs/\xs.length=n/\t xs σ H Q
theorem ZhS {es:List Expr} {k:Nat} {t:TGs} {n:Nat} (hc:X.calm=true) (h:PGs X es t)
 (hn:(assignEach es X.env).length=n:=by rfl) (hst:(assignEach es X.env).findIdx? (·.1)=none:=by rfl):PG X (.Tuple es k pos) (Qg X.K n t):=by
 intro pins s σ H v u Q I r hw;obtain⟨a,xs,e1,hq,hl,hw⟩:=hw;subst e1;cases r;obtain⟨its,rv,ht,hz⟩:=I.tuple hq;refine assign_Tuple_tuple (I.ok.hd hc) ht (by simp [hn,<-hl,rv.length]) hst λh' hx => ?_
 have I1:Inv X pins σ H { s with heap:=h' }:=I.kept (t':=s.toks) λb o e=>hx b o (Nat.ne_of_lt (Heap.lt_size e)) e
 exact h pins _ σ H xs _ Q I1 (by simpa using rv) hw
def Jy(to ti:TE)(t:TSet):TG:=λv σ H Q=>to σ H λo H1=>ti σ H1 λi H2=>t o i v H2 λH3=>Q σ H3
theorem Jz {o i:Expr} {to ti:TE} {t:TSet} (ho:PE X o to) (hi:PE X i ti) (hs:ZjZ X t)
 (ha:∀v,assign (.Subscript o i pos) X.env v=(do
   let ov <-holding [v] (eval o X.env)
   let iv <-holding [v,ov] (eval i X.env)
   standAt pos
   holding [v,ov,iv] (setItem ov iv v)
   release [v,ov,iv] []):=by intro _;rfl):PG X (.Subscript o i pos) (Jy to ti t):=by
 intro pins s σ H v u Q I r h;rw [ha];refine wpAny_bind (wpAny_holding (thn (ho pins s σ H _ I h) λov s1 ⟨x,H1,I1,r1,q1⟩ => ?_));refine wpAny_bind (wpAny_holding (thn (hi pins s1 σ H1 _ I1 q1) λiv s2 ⟨y,H2,I2,r2,q2⟩ => ?_));refine wpAny_bind (wpAny_standAt (wpAny_bind (wpAny_holding (thn (hs pins s2 σ H2 x y v ov iv u _ I2 r1 r2 r q2) λ_ s3 ⟨H3,I3,q3⟩ => ?_))));exact wpAny_release ⟨σ,H3,I3,q3⟩
def ZV(te:TE)(g:TG):TS:=λD σ H=>te σ H λx H1=>g x σ H1 D.nx
theorem JA {tg e:Expr} {te:TE} {g:TG} (he:PE X e te) (hg:PG X tg g) (hs:swapsWithSole [tg] e pos.line X.env=pure false:=by rfl) (hw:swappedStores [tg] e X.env=pure none:=by rfl)
 (h1:(assignEach [tg] X.env).map (·.2)=[assign tg X.env]:=by rfl):PS X (.Assign [tg] e pos) (ZV te g):=by
 intro pins s σ H D I h;refine wpAny_Assign_stores (thn (he pins s σ H _ I h) λv s1 ⟨x,H1,I1,r1,q1⟩ => ?_) hs hw;rw [h1];exact thn (hg pins s1 σ H1 x v _ I1 r1 q1) λ_ s2 q=>q
theorem Zx{i:Nat}{x:Str}{e:Expr}{te:TE}{pos':Pos}(hN:X.N.Nodup)(hi:X.N[i]? = some x)(hx:Loc X.env.scope x)(he:PE X e te)(hs:swapsWith e (some (.Name x pos')) pos.line X.env=pure false:=by rfl)(hf:X.fn x=true\/X.env.scope.names.lookup x=some .local:=by first|exact .inl rfl|exact .inr rfl|assumption) :
 PS X (.Assign [.Name x pos'] e pos) (ZV te (ZG i)):=by
 intro pins s σ H D I h;refine wpAny_Assign_Name (thn (he pins s σ H _ I h) λv s1 ⟨y,H1,I1,r1,q1⟩ => ?_) hs;exact Jt I1 hN hi hx r1 (λs2 I2=>⟨_,H1,I2,q1⟩) hf
end
section
variable{X:Cx}{pos:Pos}
def JB(c:TT)(tb:TS):TS:=λD σ H=>∃W:Nat->St->Hp->Prop,(∃m,W m σ H)/\∀m σ H,W m σ H ->
 c σ H λb H1=>if b=true then ∃N:St->Hp->Prop,(∀σ' H',N σ' H'->∃m',m'<m/\W m' σ' H')/\tb { D with nx:=N,ct:=N,bk:=D.nx } σ H1 else D.nx σ H1
theorem Qh{c:Expr}{body:List Stmt}{tc:TT}{tb:TS}(hp:PassesOwn (model X.prog X.w) X.A X.env X.xe)(hc:PT X c tc)(hb:PSs X body tb):PS X (.While c body [] pos) (JB tc tb):=by
 intro pins s σ H D I h;obtain⟨W,⟨m0,w0⟩,turn⟩:=h;refine wpAny_While (codeAny_whileLoop (λn s'=>∃σ' H',Inv X pins σ' H' s'/\W n σ' H') ?_ m0 ⟨σ,H,I,w0⟩)
 rintro n s1 ⟨σ1,H1,I1,w1⟩
 refine wpAny_passesOwn hp (thn (hc pins s1 σ1 H1 _ I1 (turn n σ1 H1 w1)) λb s2 ⟨H2,I2,q2⟩ => ?_);cases b with
 |true=>
  obtain⟨N,hN,q2⟩:=q2;rw [if_pos rfl];refine wpAny_passesOwn hp (thn (hb pins s2 σ1 H2 _ I2 q2) λf s3 q3 => ?_);cases f with
  |next=>
   obtain⟨σ3,H3,I3,n3⟩:=q3;obtain⟨m',hm,w3⟩:=hN σ3 H3 n3;exact⟨m',hm,σ3,H3,I3,w3⟩
  |cont=>
   obtain⟨σ3,H3,I3,n3⟩:=q3;obtain⟨m',hm,w3⟩:=hN σ3 H3 n3;exact⟨m',hm,σ3,H3,I3,w3⟩
  |brk=>exact q3
  |ret v=>exact q3
 |false=>
  rw [if_neg Bool.false_ne_true];exact wpAny_execs_nil ⟨σ1,H2,I2,q2⟩
end
structure It where
 go:Nat->Hp->Prop
 yld:Nat->Hp->V->Hp->Prop
 stop:Nat->Hp->Prop
def YI(X:Cx)(pins:List (Addr×Obj))(H:Hp)(b:Addr):Prop:=
 H b=none/\b≠X.env.locals/\b∉X.fs/\(b∈X.ex\/X.s₀.heap.objs.size<=b)/\(∀x c,X.env.cells.lookup x=some c->c≠b)/\∀p∈X.pn++pins,p.1≠b
theorem Inv.fpOk{X:Cx}{pins:List (Addr×Obj)}{σ:St}{H H':Hp}{s:Shared}{b:Addr}(I:Inv X pins σ H s)(hb:s.heap.objs.size<=b)(hn:H' b=none):YI X pins H' b:=by
 refine⟨hn,Nat.ne_of_gt (Nat.lt_of_lt_of_le I.lt hb),I.nofs hb,.inr (Nat.le_trans I.sz hb),λx c e z => ?_,λp hp z => ?_⟩
 · obtain⟨v,q⟩:=I.cell x c e
   exact absurd (Nat.lt_of_lt_of_le q.lt (by rw [z];exact hb)) (Nat.lt_irrefl _)
 · exact absurd (Nat.lt_of_lt_of_le (Heap.lt_size (I.pin p hp).1) (by rw [z];exact hb)) (Nat.lt_irrefl _)
structure Turn(P:Program)(w:World)(K:PySem.W.Frag)(tg:Expr)(J:It)(fp:List Addr)(it:Addr)(tn:Nat->Heap->Prop):Prop where
 mem:it∈fp
 obj:∀i h,tn i h->∀b∈fp,∃o,h.get? b=some o/\∀v,o.data ≠ .cell v
 keep:∀i h h',tn i h->(∀b∈fp,∀o,h.get? b=some o->h'.get? b=some o)->tn i h'
 item:∀(X:Cx),X.prog=P->X.w=w->X.K=K->X.calm=true->∀(i:Nat)(pins:List (Addr×Obj))(s:Shared)(σ:St)(H:Hp)(E:Value->Shared->Prop),Inv X pins σ H s->(∀b∈fp,YI X pins H b)->tn i s.heap->J.go i H ->
  wpAny (model P w) X.A (pyNext (.ref it)) (λr s1=>∃u,r=some u /\
   wpAny (model P w) X.A (letOwnedTupleGo tg (.ref it) u) (λ_ s2=>∃x H',Inv X pins σ H' s2/\RelV x u/\J.yld i H x H'/\tn (i+1) s2.heap/\∀b∈fp,H' b=none) E s1) E s
 done:∀(X:Cx),X.prog=P->X.w=w->X.K=K->X.calm=true->∀(i:Nat)(pins:List (Addr×Obj))(s:Shared)(σ:St)(H:Hp)(E:Value->Shared->Prop),Inv X pins σ H s->(∀b∈fp,YI X pins H b)->tn i s.heap->J.stop i H ->
  wpAny (model P w) X.A (pyNext (.ref it)) (λr s1=>r=none/\Inv X pins σ H s1) E s
 self:∀(A:Around)(i:Nat)(s:Shared)(Q:Value->Shared->Prop)(E:Value->Shared->Prop),tn i s.heap->Q (.ref it) s->wpAny (model P w) A (pyIter (.ref it)) Q E s
abbrev TI:=St->Hp->(It->Hp->Prop)->Prop
def PIE(X:Cx)(pins:List (Addr×Obj))(σ:St)(tg:Expr)(R:It->Hp->Prop)(itv:Value)(s2:Shared):Prop:=
 ∃(it:Addr) (fp:List Addr) (tn:Nat->Heap->Prop) (J:It) (H':Hp),itv = .ref it/\Inv X pins σ H' s2/\Turn X.prog X.w X.K tg J fp it tn/\tn 0 s2.heap/\(∀b∈fp,YI X pins H' b)/\R J H'
def PI(X:Cx)(tg iter:Expr)(wi:TI):Prop:=
 ∀(pins:List (Addr×Obj))(s:Shared)(σ:St)(H:Hp)(R:It->Hp->Prop),Inv X pins σ H s->wi σ H R ->
  wpAny (model X.prog X.w) X.A (eval iter X.env) (λv s1=>wpAny (model X.prog X.w) X.A (pyIter v) (PIE X pins σ tg R) X.xe s1) X.xe s
theorem Qi {M:Model} {A:Around} {E:Value->Shared->Prop} {s:Shared} {tg:Expr} {it:Addr} {u:Value} {o:Obj} {n:String} {vs:Array Value} {Q:Unit->Shared->Prop} (ho:s.heap.get? it=some o) (hc:o.cls = .type n) (hd:o.data = .fields vs)
 (hn:["enumerate", "zip", "dict_itemiterator", "dict_reverseitemiterator", "odict_iterator", "itertools.zip_longest", "itertools.pairwise"].contains n=false) (hQ:Q () s):wpAny M A (letOwnedTupleGo tg (.ref it) u) Q E s:=by
 unfold letOwnedTupleGo
 cases tg<;>first
  |exact wpAny_pure hQ
  | (cases u <;> first
      |exact wpAny_pure hQ
      | (refine wpAny_bind (wpAny_load ho ?_)
         rw [hc,hd];show wpAny M A (if(["enumerate", "zip", "dict_itemiterator", "dict_reverseitemiterator", "odict_iterator", "itertools.zip_longest", "itertools.pairwise"].contains n&&vs[0]? == some (rawInt _))=true then _ else _) Q E s;rw [if_neg (by intro h;rw [hn,Bool.false_and]at h;cases h)];exact wpAny_pure hQ))
def Itl(K:PySem.W.Frag)(a:Addr):It:=
 ⟨λi H=>∃xs x,SqL K H a xs/\xs[i]? = some x,λi H x H'=>H'=H/\∀xs,SqL K H a xs->xs[i]? = some x,λi H=>∃xs,SqL K H a xs/\xs.length<=i⟩
def Itt(K:PySem.W.Frag)(a:Addr):It:=
 ⟨λi H=>∃xs x,SqT K H a xs/\xs[i]? = some x,λi H x H'=>H'=H/\∀xs,SqT K H a xs->xs[i]? = some x,λi H=>∃xs,SqT K H a xs/\xs.length<=i⟩
def Itr(lo:Int)(n:Nat):It:=⟨λi _=>i<n,λi H x H'=>H'=H/\x = .int (lo+i),λi _=>n<=i⟩
theorem ZdN{P:Program}{w:World}{K:PySem.W.Frag}{tg:Expr}(a it:Addr):Turn P w K tg (Itl K a) [it] it (λi h=>h.IsListIter it a i) where
 mem:=by simp
 obj:=λi h st b hb=>by
  have e:b=it:=by simpa using hb
  subst e;obtain⟨o,e,c,d⟩:=st;exact⟨o,e,λv z=>by rw [d]at z;cases z⟩
 keep:=λi h h' st k=>st.at λo e=>k it (by simp) o e
 item:=by
  intro X hP hw hK hc i pins s σ H E I hf st hg;subst hP hw hK;obtain⟨xs,x,hq,hx⟩:=hg;obtain⟨its,rv,p,hz⟩:=I.list hq;obtain⟨u,hu,ru⟩:=rv.get hx;obtain⟨f0,f1,f2,f3,f4,f5⟩:=hf it (by simp);refine wpAny_pyNext_list_item st p.isList (x:=u) (by simpa using hu) λh' st' sb => ?_
  have I1:Inv X pins σ H { s with heap:=h' }:=I.turned (t':=s.toks) (λb o hb e=>(sb.2 b hb).trans e) f0 f1 f3 f4 f5;obtain⟨o,e,c,d⟩:=id st';exact⟨u,rfl,Qi (s:={ s with heap:=h' }) e c d (by decide) ⟨x,H,I1,ru,⟨rfl,λys hy=>by rw [I.list_inj hy hq];exact hx⟩,st',λb hb=>(hf b hb).1⟩⟩
 done:=by
  intro X hP hw hK hc i pins s σ H E I hf st hg;subst hP hw hK;obtain⟨xs,hq,hx⟩:=hg;obtain⟨its,rv,p,hz⟩:=I.list hq;obtain⟨f0,f1,f2,f3,f4,f5⟩:=hf it (by simp);have hl:=rv.length;exact wpAny_pyNext_list_end (I.ok.hd hc) st p.isList (by simp;omega) λh' eb=>⟨rfl,I.turned (t':=s.toks) (λb o hb e=>eb b o hb e) f0 f1 f3 f4 f5⟩
 self:=λ_ _ _ _ _ st h=>wpAny_pyIter_listiter st h
theorem Zaz{P:Program}{w:World}{K:PySem.W.Frag}{tg:Expr}(a it:Addr):Turn P w K tg (Itt K a) [it] it (λi h=>h.IsTupleIter it a i) where
 mem:=by simp
 obj:=λi h st b hb=>by
  have e:b=it:=by simpa using hb
  subst e;obtain⟨o,e,c,d⟩:=st;exact⟨o,e,λv z=>by rw [d]at z;cases z⟩
 keep:=λi h h' st k=>st.at λo e=>k it (by simp) o e
 item:=by
  intro X hP hw hK hc i pins s σ H E I hf st hg;subst hP hw hK;obtain⟨xs,x,hq,hx⟩:=hg;obtain⟨its,rv,p,hz⟩:=I.tuple hq;obtain⟨u,hu,ru⟩:=rv.get hx;obtain⟨f0,f1,f2,f3,f4,f5⟩:=hf it (by simp);refine wpAny_pyNext_tuple_item st (show s.heap.IsTuple a its.toArray from p) (x:=u) (by simpa using hu) λh' st' sb => ?_
  have I1:Inv X pins σ H { s with heap:=h' }:=I.turned (t':=s.toks) (λb o hb e=>(sb.2 b hb).trans e) f0 f1 f3 f4 f5;obtain⟨o,e,c,d⟩:=id st';exact⟨u,rfl,Qi (s:={ s with heap:=h' }) e c d (by decide) ⟨x,H,I1,ru,⟨rfl,λys hy=>by rw [I.tuple_inj hy hq];exact hx⟩,st',λb hb=>(hf b hb).1⟩⟩
 done:=by
  intro X hP hw hK hc i pins s σ H E I hf st hg;subst hP hw hK;obtain⟨xs,hq,hx⟩:=hg;obtain⟨its,rv,p,hz⟩:=I.tuple hq;obtain⟨f0,f1,f2,f3,f4,f5⟩:=hf it (by simp);have hl:=rv.length;exact wpAny_pyNext_tuple_end (I.ok.hd hc) st (show s.heap.IsTuple a its.toArray from p) (by simp;omega) λh' eb=>⟨rfl,I.turned (t':=s.toks) (λb o hb e=>eb b o hb e) f0 f1 f3 f4 f5⟩
 self:=λ_ _ _ _ _ st h=>wpAny_pyIter_tupleiter st h
theorem Zcn{P:Program}{w:World}{K:PySem.W.Frag}{tg:Expr}(it:Addr)(lo:Int)(n:Nat):Turn P w K tg (Itr lo n) [it] it (λi h=>IsRangeIter h it (lo+(i:Nat)*1) ((n:Int)-(i:Nat)) 1) where
 mem:=by simp
 obj:=λi h st b hb=>by
  have e:b=it:=by simpa using hb
  subst e
  exact⟨_,st,λv z=>by
   have z':Data.fields _=Data.cell v:=z;cases z'⟩
 keep:=λi h h' st k=>k it (by simp) _ st
 item:=by
  intro X hP hw hK hc i pins s σ H E I hf st hg;subst hP hw hK;obtain⟨f0,f1,f2,f3,f4,f5⟩:=hf it (by simp);have W:=Walks.range (prog:=X.prog) (w:=X.w) (I.ok.hd hc) it lo 1 n;refine W.item i s _ _ hg st λv h' tk hv st' kk => ?_
  obtain⟨t,rfl⟩:=hv;have I1:Inv X pins σ H { s with heap:=h',toks:=tk }:=I.turned (λb o hb e=>kk b o (by simpa using hb) e) f0 f1 f3 f4 f5;refine⟨_,rfl,Qi (s:={ s with heap:=h',toks:=tk }) (n:="range_iterator") st' rfl rfl (by decide) ⟨.int (lo+i),H,I1,⟨t,?_⟩,⟨rfl,rfl⟩,st',λb hb=>(hf b hb).1⟩⟩;rw [Int.mul_one]
 done:=by
  intro X hP hw hK hc i pins s σ H E I hf st hg;subst hP hw hK;obtain⟨f0,f1,f2,f3,f4,f5⟩:=hf it (by simp);exact wpAny_pyNext_range_end (I.ok.hd hc) st (by have:n<=i:=hg;omega) λh' eb=>⟨rfl,I.turned (t':=s.toks) (λb o hb e=>eb b o hb e) f0 f1 f3 f4 f5⟩
 self:=λ_ _ _ _ _ st h=>wpAny_pyIter_rangeiter st h
end L2
namespace L2
open PySem PySem.Spec PyProof.Rows
section
variable{X:Cx}{tg:Expr}
def Zkq(K:PySem.W.Frag)(tl:TE):TI:=λσ H R=>tl σ H λx H1=>∃a,x = .ref a/\(∃xs,SqT K H1 a xs)/\R (Itt K a) H1
theorem ZhT{l:Expr}{tl:TE}(hl:PE X l tl):PI X tg l (Zkq X.K tl):=by
 intro pins s σ H R I h;refine thn (hl pins s σ H _ I h) λv s1 ⟨x,H1,I1,r1,q1⟩ => ?_
 obtain⟨a,e,⟨xs,hq⟩,q⟩:=q1;subst e;cases r1;obtain⟨its,rv,p,hz⟩:=I1.tuple hq;refine wpAny_pyIter_tuple (show s1.heap.IsTuple a its.toArray from p) ?_;refine⟨s1.heap.objs.size,[s1.heap.objs.size],_,_,H1,rfl,I1.kept (t':=s1.toks) λb o e=>Heap.get?_push_of_some _ e,Zaz a _,⟨_,Heap.get?_push_size _ rfl,rfl,rfl⟩,λb hb => ?_,q⟩;have e:b=s1.heap.objs.size:=by simpa using hb
 subst e;exact I1.fpOk (Nat.le_refl _) (I1.hok.fresh (Nat.le_refl _))
theorem ZbU {pins:List (Addr×Obj)} {σ:St} {H:Hp} {s:Shared} {R:It->Hp->Prop} {E:Value->Shared->Prop} {lo hi:Int} {t u v:Tok} {tk:Nat} (I:Inv X pins σ H s) (h1 : -(2 ^ 62)<=lo) (h2:lo<2 ^ 62) (h3 : -(2 ^ 62)<=hi) (h4:hi<2 ^ 62)
 (q:R (Itr lo (hi-lo).toNat) H):wpAny (model X.prog X.w) X.A (pyIter (.ref s.heap.objs.size)) (PIE X pins σ tg R) E { s with heap:=s.heap.push { cls := .type "range",data := .fields #[.int lo t,.int hi u,.int 1 v] },toks:=tk }:=by
 refine wpAny_pyIter_range (IsRange.new ..) (small_one h1 h2 h3 h4) ?_;have I1:Inv X pins σ H { s with heap:=s.heap.push { cls := .type "range",data := .fields #[.int lo t,.int hi u,.int 1 v] },toks:=tk }:=I.kept λb o e=>Heap.get?_push_of_some _ e
 refine⟨(s.heap.push { cls := .type "range",data := .fields #[.int lo t,.int hi u,.int 1 v] }).objs.size,[(s.heap.push { cls := .type "range",data := .fields #[.int lo t,.int hi u,.int 1 v] }).objs.size],_,_,H,rfl,
  I1.kept (t':=tk) λb o e=>Heap.get?_push_of_some _ e,Zcn _ lo (hi-lo).toNat,?_,λb hb => ?_,q⟩
 · have e1:lo+((0:Nat):Int)*1=lo:=by simp
   have e2:(((hi-lo).toNat:Nat):Int)-((0:Nat):Int)=Builtin.Range.rangeSize lo hi 1:=by rw [rangeSize_one];split<;>omega
   show IsRangeIter _ _ (lo+((0:Nat):Int)*1) ((((hi-lo).toNat:Nat):Int)-((0:Nat):Int)) 1;rw [e1,e2];exact Heap.get?_push_size _ rfl
 · have e:b=(s.heap.push { cls := .type "range",data := .fields #[.int lo t,.int hi u,.int 1 v] }).objs.size:=by simpa using hb
   subst e;exact I1.fpOk (Nat.le_refl _) (I1.hok.fresh (Nat.le_refl _))
def JC(ta:TA):TI:=λσ H R=>ta σ H λvs H1=>∃j:Int,vs=[.int j] /\ -(2 ^ 62)<=j/\j<2 ^ 62/\R (Itr 0 j.toNat) H1
def JD(ta:TA):TI:=λσ H R=>ta σ H λvs H1=>∃i j:Int,vs=[.int i,.int j]/\(-(2 ^ 62)<=i/\i<2 ^ 62 /\ -(2 ^ 62)<=j/\j<2 ^ 62)/\R (Itr i (j-i).toNat) H1
theorem Xi {a:Expr} {ta:TA} {p pos:Pos} (hg:Gl X "range") (hm:X.mg "range" = none) (ha:PA X [a] ta) (hs:starEach [a] X.env=[(false,eval a X.env)]:=by rfl):PI X tg (.Call (.Name "range" p) [a] [] pos) (JC ta):=by
 intro pins s σ H R I h;refine Call_ (Vn I hg hm boot_range (PyProof.Rows.callWith_type1 (thn (ha pos pins s σ H _ I h) λus s1 ⟨vs,H1,I1,r1,q1⟩ => ?_) hs rfl));obtain⟨j,e,q1,q2,q⟩:=q1;subst e;cases r1 with
 |cons r rr=>
  cases rr;obtain⟨t,rfl⟩:=r;exact call_range_1 (ZbU I1 (by omega) (by omega) q1 q2 (by simpa using q))
theorem ZaU {a b:Expr} {ta:TA} {p pos:Pos} (hg:Gl X "range") (hm:X.mg "range" = none) (ha:PA X [a,b] ta) (hs:starEach [a,b] X.env=[(false,eval a X.env),(false,eval b X.env)]:=by rfl) (hs2:starEach [b] X.env=[(false,eval b X.env)]:=by rfl) :
 PI X tg (.Call (.Name "range" p) [a,b] [] pos) (JD ta):=by
 intro pins s σ H R I h;refine Call_ (Vn I hg hm boot_range (PyProof.Rows.callWith_type1 (thn (ha pos pins s σ H _ I h) λus s1 ⟨vs,H1,I1,r1,q1⟩ => ?_) (by rw [hs,hs2]) (by rw [hs2];rfl)));obtain⟨i,j,e,⟨q1,q2,q3,q4⟩,q⟩:=q1;subst e;cases r1 with
 |cons r rr=>
  cases rr with
  |cons r' rr=>
   cases rr;obtain⟨t,rfl⟩:=r;obtain⟨t',rfl⟩:=r';exact call_range_2 (ZbU I1 q1 q2 q3 q4 q)
def XI(wi:TI)(g:TG)(tb:TS):TS:=λD σ H=>wi σ H λJ H1=>∃W:Nat->Nat->St->Hp->Prop,(∃m,W 0 m σ H1)/\∀i m σ H,W i m σ H ->
 (J.stop i H/\D.nx σ H)\/(J.go i H/\∃N:St->Hp->Prop,(∀σ' H',N σ' H'->∃m',m'<m/\W (i+1) m' σ' H')/\∀x H',J.yld i H x H'->g x σ H' λσ2 H2=>tb { D with nx:=N,ct:=N,bk:=D.nx } σ2 H2)
def Xj(fp:List Addr)(h:Heap):List (Addr×Obj):=fp.filterMap λb=>(h.get? b).map λo=>(b,o)
theorem Qj{fp:List Addr}{h:Heap}{b:Addr}{o:Obj}(hb:b∈fp)(e:h.get? b=some o):(b,o)∈Xj fp h:=List.mem_filterMap.mpr ⟨b,hb,by rw [e];rfl⟩
theorem ZaV{fp:List Addr}{h:Heap}{p:Addr×Obj}(hp:p∈Xj fp h):p.1∈fp/\h.get? p.1=some p.2:=by
 obtain⟨b,hb,e⟩:=List.mem_filterMap.mp hp;cases q:h.get? b with
 |none=>rw [q]at e;cases e
 |some o=>
  rw [q]at e;have e':(b,o)=p:=Option.some.inj e;subst e';exact⟨hb,q⟩
theorem Inv.pinned{pins:List (Addr×Obj)}{σ:St}{H:Hp}{s:Shared}{fp:List Addr}(I:Inv X pins σ H s)(hf:∀b∈fp,YI X pins H b)(ho:∀b∈fp,∃o,s.heap.get? b=some o/\∀v,o.data ≠ .cell v):Inv X (pins++Xj fp s.heap) σ H s:=
 I.pins_of λp hp=>(List.mem_append.mp hp).elim (λz=>I.pin p (List.mem_append_right _ z)) λz=>by
  obtain⟨hb,e⟩:=ZaV z;obtain⟨f0,f1,f2,_⟩:=hf p.1 hb;obtain⟨o,e',d⟩:=ho p.1 hb;rw [e]at e';cases e';exact⟨e,f0,f1,f2,d⟩
theorem Inv.unpinned{pins pl:List (Addr×Obj)}{σ:St}{H:Hp}{s:Shared}(I:Inv X (pins++pl) σ H s):Inv X pins σ H s:=I.pins_of λp hp=>I.pin p (List.mem_append_right _ (List.mem_append_left _ hp))
theorem Ye {iter:Expr} {body:List Stmt} {wi:TI} {g:TG} {tb:TS} {pos:Pos} (hp:PassesOwn (model X.prog X.w) X.A X.env X.xe) (hc:X.calm=true) (hi:PI X tg iter wi) (hg:PG X tg g) (hb:PSs X body tb)
 (hs:∀x,foldedSetIterable iter X.env x=pure x:=by intro _;rfl):PS X (.For tg iter body [] pos) (XI wi g tb):=by
 intro pins s σ H D I h;refine wpAny_For (thn (hi pins s σ H _ I h) λv s1 h1=>thn h1 λitv s2 h2 => ?_) hs;obtain⟨it,fp,tn,J,H2,e,I2,T,st2,f2,W,⟨m0,w0⟩,turn⟩:=h2;subst e;have stat:∀{H':Hp},(∀b∈fp,H' b=none)->∀b∈fp,YI X pins H' b:=λhn b hb=>⟨hn b hb,(f2 b hb).2⟩
 refine codeAny_forLoop_any (λn s'=>∃i σ' H',Inv X pins σ' H' s'/\tn i s'.heap/\(∀b∈fp,H' b=none)/\W i n σ' H') ?_ m0 ⟨0,σ,H2,I2,st2,λb hb=>(f2 b hb).1,w0⟩
 rintro n s3 ⟨i,σ3,H3,I3,st3,fr3,w3⟩
 rcases turn i n σ3 H3 w3 with⟨stop,qn⟩|⟨go,N,hN,step⟩
 · refine wpAny_passesOwn hp (thn (T.done X rfl rfl rfl hc i pins s3 σ3 H3 X.xe I3 (stat fr3) st3 stop) λr s4 ⟨hr,I4⟩ => ?_)
   subst hr;exact wpAny_execs_nil ⟨σ3,H3,I4,qn⟩
 · refine wpAny_passesOwn hp (thn (T.item X rfl rfl rfl hc i pins s3 σ3 H3 X.xe I3 (stat fr3) st3 go) λr s4 ⟨u,hr,h4⟩ => ?_)
   subst hr;refine wpAny_passesOwn hp (thn h4 λ_ s5 ⟨x,H5,I5,r5,y5,st5,fr5⟩ => ?_);have I5':=I5.pinned (stat fr5) (T.obj _ _ st5);refine wpAny_passesOwn hp (thn (hg _ s5 σ3 H5 x u _ I5' r5 (step x H5 y5)) λ_ s6 ⟨σ6,H6,I6,q6⟩ => ?_);refine wpAny_passesOwn hp (thn (hb _ s6 σ6 H6 _ I6 q6) λf s7 q7 => ?_)
   have again:∀{σ7:St}{H7:Hp},Inv X (pins++Xj fp s5.heap) σ7 H7 s7->N σ7 H7->∃m,m<n/\∃i σ' H',Inv X pins σ' H' s7/\tn i s7.heap/\(∀b∈fp,H' b=none)/\W i m σ' H':=λ{σ7 H7} I7 n7=>by
    obtain⟨m',hm,w7⟩:=hN σ7 H7 n7;refine⟨m',hm,i+1,σ7,H7,I7.unpinned,T.keep _ _ _ st5 λb hb o e=>(I7.pin (b,o) (List.mem_append_right _ (List.mem_append_right _ (Qj hb e)))).1,λb hb => ?_,w7⟩;obtain⟨o,e,d⟩:=T.obj _ _ st5 b hb;exact(I7.pin (b,o) (List.mem_append_right _ (List.mem_append_right _ (Qj hb e)))).2.1
   cases f with
   |next=>obtain⟨σ7,H7,I7,n7⟩:=q7;exact again I7 n7
   |cont=>obtain⟨σ7,H7,I7,n7⟩:=q7;exact again I7 n7
   |brk=>obtain⟨σ7,H7,I7,q7⟩:=q7;exact⟨σ7,H7,I7.unpinned,q7⟩
   |ret v=>obtain⟨x7,σ7,H7,I7,r7,q7⟩:=q7;exact⟨x7,σ7,H7,I7.unpinned,r7,q7⟩
end
end L2
namespace L2
open PySem PySem.Spec PyProof.Rows
abbrev R2:=V->V->Hp->VK->Prop
def OpR(X:Cx)(f:Value->Value->Sem Value)(r:R2):Prop:=
 ∀(pins:List (Addr×Obj))(s:Shared)(σ:St)(H:Hp)(x y:V)(v u:Value)(Q:VK),Inv X pins σ H s->RelV x v->RelV y u->r x y H Q ->
  wpAny (model X.prog X.w) X.A (f v u) (EP X pins σ Q) X.xe s
def Yq(X:Cx)(f:Value)(r:List V->Hp->VK->Prop):Prop:=
 ∀(pins:List (Addr×Obj))(s:Shared)(σ:St)(H:Hp)(xs:List V)(us:List Value)(Q:VK),Inv X pins σ H s->Vals xs us->r xs H Q ->
  wpAny (model X.prog X.w) X.A (call f us) (EP X pins σ Q) X.xe s
def tOp(r:R2)(ta tb:TE):TE:=λσ H Q=>ta σ H λx H1=>tb σ H1 λy H2=>r x y H2 Q
def rI(C:Int->Int->Prop)(g:Int->Int->V):R2:=λx y H Q=>∃i j,x = .int i/\y = .int j/\C i j/\Q (g i j) H
def rI0(g:Int->Int->V):R2:=λx y H Q=>∃i j,x = .int i/\y = .int j/\Q (g i j) H
section
variable{X:Cx}{a b c:Expr}{ta tb tc:TE}{pos:Pos}
theorem JE (ha:PE X a ta) (hb:PE X b tb) {pins:List (Addr×Obj)} {s:Shared} {σ:St} {H:Hp} {R:V->V->Hp->Prop} (I:Inv X pins σ H s)
 (h:ta σ H λx H1=>tb σ H1 λy H2=>R x y H2) {Q:Value->Shared->Prop} {f:Value->Value->Sem Value}
 (hf:∀v u s2 x y H2,Inv X pins σ H2 s2->RelV x v->RelV y u->R x y H2->wpAny (model X.prog X.w) X.A (f v u) Q X.xe s2) :
 wpAny (model X.prog X.w) X.A (eval a X.env) (λv s₁=>wpAny (model X.prog X.w) X.A (eval b X.env) (λu s₂=>wpAny (model X.prog X.w) X.A (f v u) Q X.xe s₂) X.xe s₁) X.xe s:=by
 refine thn (ha pins s σ H _ I h) λv s1 ⟨x,H1,I1,r1,q1⟩ => ?_
 refine thn (hb pins s1 σ H1 _ I1 q1) λu s2 ⟨y,H2,I2,r2,q2⟩ => ?_
 exact hf v u s2 x y H2 I2 r1 r2 q2
theorem ZC{op:Operator}{r:R2}(ho:OpR X (binaryOp op) r)(ha:PE X a ta)(hb:PE X b tb):PE X (.BinOp a op b pos) (tOp r ta tb):=by
 intro pins s σ H Q I h;exact wpAny_BinOp (JE ha hb I h λv u s2 x y H2 I2 rx ry q=>ho pins s2 σ H2 x y v u Q I2 rx ry q)
theorem opI {f:Value->Value->Sem Value} {C:Int->Int->Prop} {g:Int->Int->Int}
 (rule:∀(i j:Int)(t u:Tok)(s:Shared)(Q:Value->Shared->Prop)(E:Value->Shared->Prop),C i j->Q (.int (g i j) s.toks) { s with toks:=s.toks+1 }->wpAny (model X.prog X.w) X.A (f (.int i t) (.int j u)) Q E s) :
 OpR X f (rI C λi j => .int (g i j)):=by
 intro pins s σ H x y v u Q I rx ry h;obtain⟨i,j,rfl,rfl,hc,q⟩:=h;obtain⟨t,rfl⟩:=rx;obtain⟨t',rfl⟩:=ry;exact rule i j t t' s _ _ hc ⟨.int (g i j),H,I.tok _,⟨_,rfl⟩,q⟩
theorem Zj0 {f:Value->Value->Sem Value} {g:Int->Int->Int}
 (rule:∀(i j:Int)(t u:Tok)(s:Shared)(Q:Value->Shared->Prop)(E:Value->Shared->Prop),Q (.int (g i j) s.toks) { s with toks:=s.toks+1 }->wpAny (model X.prog X.w) X.A (f (.int i t) (.int j u)) Q E s) :
 OpR X f (rI0 λi j => .int (g i j)):=by
 intro pins s σ H x y v u Q I rx ry h;obtain⟨i,j,rfl,rfl,q⟩:=h;obtain⟨t,rfl⟩:=rx;obtain⟨t',rfl⟩:=ry;exact rule i j t t' s _ _ ⟨.int (g i j),H,I.tok _,⟨_,rfl⟩,q⟩
theorem Zj1 {f:Value->Value->Sem Value} {g:Int->Int->Bool}
 (rule:∀(i j:Int)(t u:Tok)(s:Shared)(Q:Value->Shared->Prop)(E:Value->Shared->Prop),Q (.bool (g i j)) s->wpAny (model X.prog X.w) X.A (f (.int i t) (.int j u)) Q E s) :
 OpR X f (rI0 λi j => .bl (g i j)):=by
 intro pins s σ H x y v u Q I rx ry h;obtain⟨i,j,rfl,rfl,q⟩:=h;obtain⟨t,rfl⟩:=rx;obtain⟨t',rfl⟩:=ry;exact rule i j t t' s _ _ ⟨.bl (g i j),H,I,rfl,q⟩
def Xk(i j:Int):Prop:=0<j/\j<1073741824
def Zj2(i j:Int):Prop:=0<=j/\j<=1000000/\i.natAbs<2 ^ 64
def CMul(i j:Int):Prop:=(-(2 ^ 64)<i/\i<2 ^ 64)\/(-(2 ^ 64)<j/\j<2 ^ 64)
theorem CMul.ok{i j:Int}(h:CMul i j):IntMulOk i j:=by
 rcases h with⟨h1,h2⟩|⟨h1,h2⟩
 · exact .of_left (intBits_le_64 h1 h2)
 · exact .of_right (intBits_le_64 h1 h2)
theorem op_add:OpR X (binaryOp .Add) (rI0 λi j => .int (i+j)):=Zj0 λ_ _ _ _ _ _ _ q=>add_int q
theorem ZhU:OpR X (binaryOp .Sub) (rI0 λi j => .int (i-j)):=Zj0 λ_ _ _ _ _ _ _ q=>sub_int q
theorem Qk:OpR X (binaryOp .FloorDiv) (rI Xk λi j => .int (i / j)):=opI λi j _ _ _ _ _ hc q=>by
 have h1:(0:Int)<j:=hc.1;have h2:j<1073741824:=hc.2;exact floordiv_int (by omega) (by rw [Int.fdiv_eq_ediv_of_nonneg i (by omega)];exact q) (.inl (PyProof.noPylong_small (by omega)))
theorem Yz:OpR X (binaryOp .Mod) (rI (λ_ j=>0<j) λi j => .int (i % j)):=opI λi j _ _ _ _ _ hc q=>by
 have h1:(0:Int)<j:=hc;exact mod_int' (by omega) (by rw [Int.fmod_eq_emod_of_nonneg i (by omega)];exact q)
end
def scal:V->V->Bool
 | .non,.non=>true | .non,.int _=>true | .int _,.non=>true | .non,.bl _=>true | .bl _,.non=>true | .non,.str _=>true | .str _,.non=>true
 | .int _,.int _=>true | .bl _,.bl _=>true | .str _,.str _=>true | .byt _,.byt _=>true
 | .int _,.str _=>true | .str _,.int _=>true | .bl _,.str _=>true | .str _,.bl _=>true
 |_,_=>false
def rEq:R2:=λx y H Q=>scal x y=true/\Q (.bl (decide (x=y))) H
def rNe:R2:=λx y H Q=>scal x y=true/\Q (.bl (!decide (x=y))) H
theorem Zc3{i j:Int}:decide (V.int i=V.int j)=(i == j):=by
 rw [Bool.eq_iff_iff];simp
theorem Zfj{i j:Bool}:decide (V.bl i=V.bl j)=(i == j):=by
 rw [Bool.eq_iff_iff];simp
theorem Zc4{i j:Str}:decide (V.str i=V.str j)=(i == j):=by
 rw [Bool.eq_iff_iff];simp
theorem Zc5{i j:Array UInt8}:decide (V.byt i=V.byt j)=(i.toList == j.toList):=by
 rw [Bool.eq_iff_iff];cases i;cases j;simp
section
variable{X:Cx}{a b c:Expr}{ta tb tc:TE}{pos:Pos}
theorem ZN{pins:List (Addr×Obj)}{σ:St}{H:Hp}{s:Shared}{Q:VK}{k k':Bool}(I:Inv X pins σ H s)(q:Q (.bl k) H)(e:k=k'):EP X pins σ Q (.bool k') s:=by
 subst e;exact⟨.bl k,H,I,rfl,q⟩
theorem Qm:OpR X (compareOp .Eq) rEq:=by
 intro pins s σ H x y v u Q I rx ry h;obtain⟨hs,q⟩:=h;cases x with
 |non=>
  cases rx;cases y with
  |non=>cases ry;exact PySem.EqNone.eq_none_none (ZN I q (by simp))
  |bl j=>cases ry;exact PySem.EqNone.eq_none_bool (ZN I q (by simp))
  |int j=>obtain⟨t',rfl⟩:=ry;exact PySem.EqNone.eq_none_int (ZN I q (by simp))
  |str j=>obtain⟨t',rfl⟩:=ry;exact PySem.EqNone.eq_none_str (ZN I q (by simp))
  |_=>exact absurd (show false=true from hs) Bool.false_ne_true
 |bl i=>
  cases rx;cases y with
  |non=>cases ry;exact PySem.EqNone.eq_bool_none (ZN I q (by simp))
  |bl j=>cases ry;exact eq_bool (ZN I q Zfj)
  |str j=>obtain⟨t',rfl⟩:=ry;exact PySem.EqMixed.eq_bool_str (ZN I q (by simp))
  |_=>exact absurd (show false=true from hs) Bool.false_ne_true
 |int i=>
  obtain⟨t,rfl⟩:=rx;cases y with
  |non=>cases ry;exact PySem.EqNone.eq_int_none (ZN I q (by simp))
  |int j=>obtain⟨t',rfl⟩:=ry;exact eq_int (ZN I q Zc3)
  |str j=>obtain⟨t',rfl⟩:=ry;exact PySem.EqMixed.eq_int_str (ZN I q (by simp))
  |_=>exact absurd (show false=true from hs) Bool.false_ne_true
 |str i=>
  obtain⟨t,rfl⟩:=rx;cases y with
  |non=>cases ry;exact PySem.EqNone.eq_str_none (ZN I q (by simp))
  |bl j=>cases ry;exact PySem.EqMixed.eq_str_bool (ZN I q (by simp))
  |int j=>obtain⟨t',rfl⟩:=ry;exact PySem.EqMixed.eq_str_int (ZN I q (by simp))
  |str j=>obtain⟨t',rfl⟩:=ry;exact eq_str (ZN I q Zc4)
  |_=>exact absurd (show false=true from hs) Bool.false_ne_true
 |byt i=>
  obtain⟨t,rfl⟩:=rx;cases y with
  |byt j=>obtain⟨t',rfl⟩:=ry;exact PySem.W.eq_bytes (ZN I q Zc5)
  |_=>exact absurd (show false=true from hs) Bool.false_ne_true
 |_=>cases y<;>exact absurd (show false=true from hs) Bool.false_ne_true
theorem Zi0:OpR X (compareOp .NotEq) rNe:=by
 intro pins s σ H x y v u Q I rx ry h;obtain⟨hs,q⟩:=h;cases x with
 |non=>
  cases rx;cases y with
  |non=>cases ry;exact PySem.EqNone.ne_none_none (ZN I q (by simp))
  |bl j=>cases ry;exact PySem.EqNone.ne_none_bool (ZN I q (by simp))
  |int j=>obtain⟨t',rfl⟩:=ry;exact PySem.EqNone.ne_none_int (ZN I q (by simp))
  |str j=>obtain⟨t',rfl⟩:=ry;exact PySem.EqNone.ne_none_str (ZN I q (by simp))
  |_=>exact absurd (show false=true from hs) Bool.false_ne_true
 |bl i=>
  cases rx;cases y with
  |non=>cases ry;exact PySem.EqNone.ne_bool_none (ZN I q (by simp))
  |bl j=>cases ry;exact ne_bool (ZN I q (congrArg not Zfj))
  |str j=>obtain⟨t',rfl⟩:=ry;exact PySem.EqMixed.ne_bool_str (ZN I q (by simp))
  |_=>exact absurd (show false=true from hs) Bool.false_ne_true
 |int i=>
  obtain⟨t,rfl⟩:=rx;cases y with
  |non=>cases ry;exact PySem.EqNone.ne_int_none (ZN I q (by simp))
  |int j=>obtain⟨t',rfl⟩:=ry;exact ne_int (ZN I q (congrArg not Zc3))
  |str j=>obtain⟨t',rfl⟩:=ry;exact PySem.EqMixed.ne_int_str (ZN I q (by simp))
  |_=>exact absurd (show false=true from hs) Bool.false_ne_true
 |str i=>
  obtain⟨t,rfl⟩:=rx;cases y with
  |non=>cases ry;exact PySem.EqNone.ne_str_none (ZN I q (by simp))
  |bl j=>cases ry;exact PySem.EqMixed.ne_str_bool (ZN I q (by simp))
  |int j=>obtain⟨t',rfl⟩:=ry;exact PySem.EqMixed.ne_str_int (ZN I q (by simp))
  |str j=>obtain⟨t',rfl⟩:=ry;exact ne_str (ZN I q (congrArg not Zc4))
  |_=>exact absurd (show false=true from hs) Bool.false_ne_true
 |byt i=>
  obtain⟨t,rfl⟩:=rx;cases y with
  |byt j=>obtain⟨t',rfl⟩:=ry;exact PySem.W.ne_bytes (ZN I q (congrArg not Zc5))
  |_=>exact absurd (show false=true from hs) Bool.false_ne_true
 |_=>cases y<;>exact absurd (show false=true from hs) Bool.false_ne_true
theorem Zhq:OpR X (compareOp .Lt) (rI0 λi j => .bl (decide (i<j))):=Zj1 λ_ _ _ _ _ _ _ q=>lt_int q
theorem JF:OpR X (compareOp .Gt) (rI0 λi j => .bl (decide (j<i))):=Zj1 λ_ _ _ _ _ _ _ q=>gt_int q
theorem Zbh:OpR X (compareOp .NotIn) (λx y H Q=>∃i j,x = .str i/\y = .str j/\Q (.bl (!(!(Builtin.Str.occurrences j i 0 j.length 1).isEmpty))) H):=by
 intro pins s σ H x y v u Q I rx ry h;obtain⟨i,j,rfl,rfl,q⟩:=h;obtain⟨t,rfl⟩:=rx;obtain⟨t',rfl⟩:=ry;exact notIn_str (ZN I q rfl)
theorem OpR.or{f:Value->Value->Sem Value}{r r':R2}(h:OpR X f r)(h':OpR X f r'):OpR X f (λx y H Q=>r x y H Q\/r' x y H Q):=by
 intro pins s σ H x y v u Q I rx ry q;rcases q with q|q
 · exact h pins s σ H x y v u Q I rx ry q
 · exact h' pins s σ H x y v u Q I rx ry q
theorem Yk(b:Expr){op:CmpOp}(h:op ≠ .In:=by decide)(h2:op ≠ .NotIn:=by decide):behindInMarks op b=false:=by
 have e1:(op == CmpOp.In)=false:=by cases op<;>first|rfl|exact absurd rfl h
 have e2:(op == CmpOp.NotIn)=false:=by cases op<;>first|rfl|exact absurd rfl h2
 cases b<;>simp [behindInMarks,e1,e2]
theorem Zc6{op:CmpOp}{r:R2}(ho:OpR X (compareOp op) r)(ha:PE X a ta)(hb:PE X b tb)(hm:behindInMarks op b=false):PE X (.Compare a [op] [b] pos) (tOp r ta tb):=by
 intro pins s σ H Q I h;exact wpAny_Compare1 (JE ha hb I h λv u s2 x y H2 I2 rx ry q=>ho pins s2 σ H2 x y v u Q I2 rx ry q) hm
def Vp(t:TE):TT:=λσ H Q=>t σ H λx H'=>∃k,x = .bl k/\Q k H'
theorem Yl{op:CmpOp}{r:R2}(ho:OpR X (compareOp op) r)(ha:PE X a ta)(hb:PE X b tb)(hm:behindInMarks op b=false):PT X (.Compare a [op] [b] pos) (Vp (tOp r ta tb)):=by
 intro pins s σ H Q I h
 refine wpAny_isTrue_Compare1 (thn (ha pins s σ H _ I h) λv s1 ⟨x,H1,I1,r1,q1⟩=>thn (hb pins s1 σ H1 _ I1 q1) λu s2 ⟨y,H2,I2,r2,q2⟩=>
  thn (ho pins s2 σ H2 x y v u _ I2 r1 r2 q2) λc s3 ⟨z,H3,I3,r3,k,e,q3⟩ => ?_) hm
 subst e;cases r3;exact wpAny_truthy_bool ⟨H3,I3,q3⟩
theorem V2:(sizeLine:Nat)<2 ^ 63:=by rw [sizeLine_eq];decide
theorem Zco:OpR X (binaryOp .Add) (λx y H Q=>∃i j,x = .str i/\y = .str j/\i.length+j.length<=sizeLine/\Q (.str (i++j)) H):=by
 intro pins s σ H x y v u Q I rx ry h;obtain⟨i,j,rfl,rfl,hz,q⟩:=h;obtain⟨t,rfl⟩:=rx;obtain⟨t',rfl⟩:=ry;exact add_str (λt' tk=>⟨.str (i++j),H,I.tok _,⟨_,rfl⟩,q⟩) hz
theorem Y6{x:V}{us:List Value}(r:Vals [x] us):∃u,us=[u]/\RelV x u:=by
 cases r with
 |cons r1 r2=>cases r2;exact⟨_,rfl,r1⟩
theorem Zhr{x y:V}{us:List Value}(r:Vals [x,y] us):∃u w',us=[u,w']/\RelV x u/\RelV y w':=by
 cases r with
 |cons r1 r2=>
  cases r2 with
  |cons r3 r4=>cases r4;exact⟨_,_,rfl,r1,r3⟩
theorem ZdO:Yq X (.type "int") (λxs H Q=>(∃i,xs=[.int i]/\Q (.int i) H)\/∃k,xs=[.bl k]/\Q (.int (if k then 1 else 0)) H):=by
 intro pins s σ H xs us Q I r h;rcases h with⟨i,rfl,q⟩|⟨k,rfl,q⟩
 · obtain⟨u,rfl,t,rfl⟩:=Y6 r
   exact call_int_int ⟨.int i,H,I,⟨_,rfl⟩,q⟩
 · obtain⟨u,rfl,r1⟩:=Y6 r
   cases r1;exact call_int_bool ⟨.int (if k then 1 else 0),H,I.tok _,⟨_,rfl⟩,q⟩
end
end L2
namespace L2
open PySem PySem.Spec PyProof.Rows
structure ObjM(h:Heap)(x dx C:Addr)(mA:Str->Option Value):Prop where
 obj:h.get? x=some (instObj C dx)
 ns:h.Ns1 dx mA
 ne:dx≠x
theorem ZdP{h:Heap}{dx:Addr}{mA:Str->Option Value}(n:h.Ns1 dx mA):∃od,h.get? dx=some od/\∀name,PySem.W.lookIn name od=some (mA name):=by
 obtain⟨o,es,ep,ho,hd,hk,_,hm⟩:=n;refine⟨o,ho,λname => ?_⟩;have e:=hm name;unfold nsFind findBy at e;rw [<-Array.find?_toList]at e;unfold PySem.W.lookIn;rw [hd];dsimp only
 split
 · rename_i y q
   rw [q]at e;exact congrArg some e
 · rename_i q
   rw [q]at e
   have a:es.toList.any (·.refKey)=false:=by
    rw [List.any_eq_false];intro y hy;obtain⟨z,t,hkey⟩:=hk y (Array.mem_toList_iff.mp hy);simp [DictEntry.refKey,hkey]
   have a':¬es.toList.any (·.refKey)=true:=by rw [a];exact Bool.false_ne_true
   rw [if_neg a'];exact congrArg some e
theorem ObjM.look{h:Heap}{x dx C:Addr}{mA:Str->Option Value}(I:ObjM h x dx C mA):∃od,PySem.W.InstAt h x (instObj C dx) C (some od)/\∀name,PySem.W.lookIn name od=some (mA name):=
 let⟨od,ho,hl⟩:=ZdP I.ns
 ⟨od,⟨I.obj,rfl,rfl,ho⟩,hl⟩
section
variable{prog:Program}{w:World}{A:Around}{E:Value->Shared->Prop}{s:Shared}{K:PySem.W.Frag}{x dx C f:Addr}{mA:Str->Option Value}{name:Str}{v:Value}
theorem Zga {expr:Bool} {Q:Value->Shared->Prop} (X:K.In s.heap) (I:ObjM s.heap x dx C mA) (hg:PySem.W.plainGet K C name=true) (hh:PySem.W.hasDictIn K C=true)
 (ha:PySem.W.findIn K (.ref C) name=some none) (hv:mA name=some v) (hv':PySem.W.handedIn v=true) (h:Q v { s with toks:=s.toks+1 }) :
 wpAny (model prog w) A (getAttr (.ref x) name expr) Q E s:=by
 obtain⟨od,J,hl⟩:=I.look;exact PySem.W.get_value X J (PySem.W.plainGet_of hg).1 (PySem.W.findObj_own hh ha rfl (by rw [hl,hv])) hv' h
theorem Zet {pl:Sem Bool} {Q:Value×List Value->Shared->Prop} (X:K.In s.heap) (I:ObjM s.heap x dx C mA) (hg:PySem.W.plainGet K C name=true)
 (hf:PySem.W.findIn K (.ref C) name=some (some (.ref f))) (ht:isFn K (.ref f)=true) (hv:mA name=none) (h:Q (.ref f,[.ref x]) s) :
 wpAny (model prog w) A (getMethod (.ref x) name pl) Q E s:=by
 obtain⟨od,J,hl⟩:=I.look;exact PySem.W.method_fn X J (PySem.W.plainGet_of hg).1 (PySem.W.plainGet_of hg).2 hf (beq_iff_eq.mp ht) (by show(PySem.W.lookIn name od).map (·.isSome)=some false;rw [hl,hv];rfl) h
theorem Zgb {ns:List Str} {Q:Unit->Shared->Prop} (X:K.In s.heap) (I:ObjM s.heap x dx C mA)
 (hs:PySem.W.findIn K (.ref C) "__setattr__" = some (some (.builtin "object.__setattr__"))) (hp:PySem.W.plainOver K C=true) (ht:PySem.W.takerIn K C name=some none) (hh:PySem.W.hasDictIn K C=true)
 (hw:PySem.Within mA ns) (hsz:ns.length<=sizeLine)
 (h:∀h',ObjM h' x dx C (λy=>if y=name then some v else mA y)->Heap.SameBut dx s.heap h'->Q () { s with heap:=h',toks:=s.toks+2 }) :
 wpAny (model prog w) A (setAttr (.ref x) name v) Q E s:=by
 obtain⟨od,J,hl⟩:=I.look;refine PySem.W.set_plain X J hs (PySem.W.osa_open (s:={ s with toks:=s.toks+1 }) (r:=none) X J hp ht λb => ?_);obtain⟨cd,hc,hd'⟩:=PySem.W.any_some hh;have hx:s.heap.get? x=some ⟨.ref C,some dx,.plain,#[]⟩:=I.obj;refine wpAny_bind (wpAny_pure (wpAny_bind (wpAny_bind (wpAny_loadPart hx (wpAny_bind (PySem.W.Looks.here (s:={ s with toks:=s.toks+1 }) (PySem.W.looks_clsIn X hc) ?_))))))
 rw [hd'];refine wpAny_pure (a:=some dx) (wpAny_bind (wpAny_pure (wpAny_bind ?_)));refine wpAny_nsSet1 (s:={ s with toks:=s.toks+1 }) I.ns λh' hn2 hs2 => ?_
 obtain⟨oD,esD,epD,hoD,hdD,hcD⟩:=hn2.count (PySem.Within.cons name v hw);refine wpAny_bind (wpAny_lookBehind hoD (by rw [hdD];exact pastItsLine_dict (Nat.le_trans hcD (by rw [List.length_cons];omega))) ?_);exact wpAny_pure (h _ ⟨(hs2.2 _ (Ne.symm I.ne)).trans I.obj,hn2,I.ne⟩ hs2)
theorem Zeu {R:Result->Shared->Prop} {vs:List Value} {kw:List (Str×Value)} (X:K.In s.heap) (hm:PySem.W.makesIn K C=true)
 (hi:PySem.W.findIn K (.ref C) "__init__" = some (some (.ref f))) (hf:PySem.W.typeIn K (.ref f)=some (.type "function"))
 (h:codeAny (model prog w) (A.under (.builtin "type.__call__" ⟨.ref C::vs,kw⟩)) (.call (.ref f) ⟨.ref (s.heap.objs.size+1)::vs,kw⟩) (PySem.W.InitBack (s.heap.objs.size+1) R)
   { s with heap:=(s.heap.push emptyDict).push (instObj C s.heap.objs.size) }) :
 codeAny (model prog w) A (.call (.ref C) ⟨vs,kw⟩) R s:=by
 obtain⟨hh,g,d,t,os⟩:=s;exact PySem.W.make_core (PySem.W.makes_of X hm) (PySem.W.looks_findIn X hi) (λself=>PySem.W.bind_fn X self hf) (.inl rfl) h
end
def Z7(f:Str)(v:V):List (Str×V)->List (Str×V)
 | []=>[(f,v)]
 |(g,x)::r=>if g=f then(g,v)::r else(g,x)::Z7 f v r
theorem Zaq(f g:Str)(v:V):∀fs:List (Str×V),(Z7 f v fs).lookup g=if g=f then some v else fs.lookup g
 | []=>by
  show List.lookup g [(f,v)]=_
  by_cases h:g=f
  · have hb:(g == f)=true:=beq_iff_eq.mpr h
    simp only [List.lookup,hb,if_pos h]
  · have hb:(g == f)=false:=beq_eq_false_iff_ne.mpr h
    simp only [List.lookup,hb,if_neg h]
 |(k,x)::r=>by
  have ih:=Zaq f g v r;rw [show Z7 f v ((k,x)::r)=(if k=f then(k,v)::r else(k,x)::Z7 f v r)from rfl]
  by_cases hk:k=f
  · rw [if_pos hk]
    by_cases h:g=k
    · have hb:(g == k)=true:=beq_iff_eq.mpr h
      simp only [List.lookup,hb,if_pos (h.trans hk)]
    · have hb:(g == k)=false:=beq_eq_false_iff_ne.mpr h
      simp only [List.lookup,hb,if_neg (λe:g=f=>h (e.trans hk.symm))]
  · rw [if_neg hk]
    by_cases h:g=k
    · have hb:(g == k)=true:=beq_iff_eq.mpr h
      simp only [List.lookup,hb,if_neg (λe:g=f=>hk (h.symm.trans e))]
    · have hb:(g == k)=false:=beq_eq_false_iff_ne.mpr h
      simp only [List.lookup,hb];exact ih
theorem JG(f:Str)(v:V):∀fs:List (Str×V),f∈(Z7 f v fs).map (·.1)/\∀g,g∈fs.map (·.1)->g∈(Z7 f v fs).map (·.1)
 | []=>⟨by simp [Z7],λg h=>by simp at h⟩
 |(k,x)::r=>by
  obtain⟨i1,i2⟩:=JG f v r;rw [show Z7 f v ((k,x)::r)=(if k=f then(k,v)::r else(k,x)::Z7 f v r)from rfl]
  by_cases hk:k=f
  · rw [if_pos hk]
    subst hk;exact⟨by simp,λg h=>by simpa using h⟩
  · rw [if_neg hk]
    refine⟨?_,λg h => ?_⟩
    · rw [List.map_cons]
      exact List.mem_cons_of_mem _ i1
    · rw [List.map_cons]at h ⊢
      rcases List.mem_cons.mp h with e|e
      · exact List.mem_cons.mpr (.inl e)
      · exact List.mem_cons_of_mem _ (i2 g e)
theorem Zar(f:Str)(v:V):∀fs:List (Str×V),(Z7 f v fs).length<=fs.length+1
 | []=>by simp [Z7]
 |(k,x)::r=>by
  have ih:=Zar f v r;rw [show Z7 f v ((k,x)::r)=(if k=f then(k,v)::r else(k,x)::Z7 f v r)from rfl]
  by_cases hk:k=f
  · rw [if_pos hk,List.length_cons,List.length_cons];omega
  · rw [if_neg hk,List.length_cons,List.length_cons];omega
theorem RelO.some_of{v:V}{o:Option Value}(r:RelO (some v) o):∃u,o=some u/\RelV v u:=by
 cases o with
 |none=>exact(show False from r).elim
 |some u=>exact⟨u,rfl,r⟩
theorem RelO.none_of{o:Option Value}(r:RelO none o):o=none:=by
 cases o with
 |none=>rfl
 |some u=>exact(show False from r).elim
theorem ZdQ{v:V}{u:Value}(r:RelV v u):PySem.W.handedIn u=true:=by
 cases v with
 |non=>cases(show u=Value.none from r);rfl
 |bl b=>cases(show u=Value.bool b from r);rfl
 |int i=>obtain⟨t,e⟩:=(show ∃t,u=Value.int i t from r);cases e;rfl
 |str x=>obtain⟨t,e⟩:=(show ∃t,u=Value.str x t from r);cases e;rfl
 |byt b=>obtain⟨t,e⟩:=(show ∃t,u=Value.bytes b t from r);cases e;rfl
 |flt b=>obtain⟨t,e⟩:=(show ∃t,u=Value.float b t from r);cases e;rfl
 |ref a=>cases(show u=Value.ref a from r);rfl
 |ty n=>cases(show u=Value.type n from r);rfl
section
variable{P:Program}{w:World}{H H':Hp}{h h':Heap}{a C dx:Addr}{fs fs':List (Str×V)}
theorem ins_get(hok:HOk P w H h)(e:H a=some (.ins C dx fs)):∃mA,ObjM h a dx C mA/\(∀f,RelO (fs.lookup f) (mA f))/\PySem.Within mA (fs.map (·.1))/\fs.length<=1000/\H dx=some (.own a):=by
 obtain⟨d,z,ne,ob,mA,n,r,q⟩:=(show ObjOk P w H h a (.ins C dx fs)from hok a _ e)
 exact⟨mA,⟨ob,n,ne⟩,r,q,z,d⟩
end
structure Cls(K:PySem.W.Frag)(C:Addr):Prop where
 pg:PySem.W.plainGet K C Str.empty=true
 hd:PySem.W.hasDictIn K C=true
 po:PySem.W.plainOver K C=true
 sa:PySem.W.findIn K (.ref C) "__setattr__" = some (some (.builtin "object.__setattr__"))
theorem Cls.get{K:PySem.W.Frag}{C:Addr}(c:Cls K C)(f:Str):PySem.W.plainGet K C f=true:=c.pg
def NoAttr(K:PySem.W.Frag)(C:Addr)(f:Str):Prop:=PySem.W.findIn K (.ref C) f=some none
theorem NoAttr.taker{K:PySem.W.Frag}{C:Addr}{f:Str}(n:NoAttr K C f):PySem.W.takerIn K C f=some none:=by
 unfold PySem.W.takerIn;rw [show PySem.W.findIn K (.ref C) f=some none from n];rfl
structure Con(K:PySem.W.Frag)(C:Addr)(f:Str)(v:V)(u:Value):Prop where
 at_:PySem.W.findIn K (.ref C) f=some (some u)
 rel:RelV v u
 get:PySem.W.specialIn K u "__get__" = some none
 cp:PySem.W.copiedNames.contains f=false
structure Meth(K:PySem.W.Frag)(C:Addr)(m:Str)(f:Addr):Prop where
 at_:PySem.W.findIn K (.ref C) m=some (some (.ref f))
 fn:isFn K (.ref f)=true
 kp:keepIn K (.ref f)=true
section
variable{X:Cx}{pins:List (Addr×Obj)}{σ:St}{H:Hp}{s:Shared}{a C dx:Addr}{fs:List (Str×V)}{f:Str}{v:V}{A:Around}{E:Value->Shared->Prop}
theorem Zcp {b:Bool} {Q:Value->Shared->Prop} (I:Inv X pins σ H s) (e:H a=some (.ins C dx fs)) (c:Cls X.K C) (n:NoAttr X.K C f) (l:fs.lookup f=some v)
 (h:∀u s',Inv X pins σ H s'->RelV v u->Q u s'):wpAny (model X.prog X.w) A (getAttr (.ref a) f b) Q E s:=by
 obtain⟨mA,O,r,_,_,_⟩:=ins_get I.hok e;obtain⟨u,hu,ru⟩:=RelO.some_of (v:=v) (o:=mA f) (by rw [<-l];exact r f);exact Zga I.kIn O (c.get f) c.hd n hu (ZdQ ru) (h u _ (I.tok _) ru)
theorem Zcq {m:Str} {g:Addr} {pl:Sem Bool} {Q:Value×List Value->Shared->Prop} (I:Inv X pins σ H s) (e:H a=some (.ins C dx fs)) (c:Cls X.K C) (k:Meth X.K C m g) (l:fs.lookup m=none)
 (h:Q (.ref g,[.ref a]) s):wpAny (model X.prog X.w) A (getMethod (.ref a) m pl) Q E s:=by
 obtain⟨mA,O,r,_,_,_⟩:=ins_get I.hok e;have hn:mA m=none:=RelO.none_of (by rw [<-l];exact r m);exact Zet I.kIn O (c.get m) k.at_ k.fn hn h
theorem Zcr {y:V} {u:Value} {Q:Unit->Shared->Prop} (I:Inv X pins σ H s) (e:H a=some (.ins C dx fs)) (c:Cls X.K C) (n:NoAttr X.K C f) (hl:fs.length<1000) (ry:RelV y u)
 (h:∀s',Inv X pins σ (upd H a (.ins C dx (Z7 f y fs))) s'->Q () s'):wpAny (model X.prog X.w) A (setAttr (.ref a) f u) Q E s:=by
 obtain⟨mA,O,r,wi,_,ho⟩:=ins_get I.hok e;have hz:(fs.map (·.1)).length<=sizeLine:=by rw [List.length_map,sizeLine_eq];omega
 refine Zgb I.kIn O c.sa c.po n.taker c.hd wi hz λh' O' sb=>h _ ?_
 have hd:∃o,h'.get? dx=some o:=let⟨o,_,_,e',_⟩:=O'.ns;⟨o,e'⟩
 refine I.write (x:=a) (e:=dx) (by rw [e];exact True.intro) (.inr ho) (λb q hb z=>(sb.2 b hb).trans z) hd ?_;refine⟨by rw [Zc O.ne];exact ho,?_,O.ne,O'.obj,_,O'.ns,λg => ?_,λg hg => ?_⟩
 · have:=Zar f y fs;omega
 · show RelO ((Z7 f y fs).lookup g) (if g=f then some u else mA g)
   rw [Zaq]
   by_cases q:g=f
   · rw [if_pos q,if_pos q];exact ry
   · rw [if_neg q,if_neg q];exact r g
 · by_cases q:g=f
   · rw [q];exact(JG f y fs).1
   · refine(JG f y fs).2 g (wi g λz=>hg ?_)
     show(if g=f then some u else mA g)=none;rw [if_neg q];exact z
theorem Inv.made(I:Inv X pins σ H s):Inv X pins σ (upd (upd H s.heap.objs.size (.own (s.heap.objs.size+1))) (s.heap.objs.size+1) (.ins C s.heap.objs.size []))
 { s with heap:=(s.heap.push emptyDict).push (instObj C s.heap.objs.size) }:=by
 have e1:(s.heap.push emptyDict).get? s.heap.objs.size=some emptyDict:=Heap.get?_push_size s.heap rfl
 have e2:((s.heap.push emptyDict).push (instObj C s.heap.objs.size)).get? (s.heap.objs.size+1)=some (instObj C s.heap.objs.size):=by
  have:=Heap.get?_push_size (s.heap.push emptyDict) (o:=instObj C s.heap.objs.size) rfl
  rwa [Heap.size_push]at this
 have e3:(s.heap.push emptyDict).Ns s.heap.objs.size (λ_=>none):=⟨emptyDict,#[],_,e1,rfl,(λe he=>absurd he (by simp)),λ_=>rfl⟩
 have I1:=I.laid (a:=s.heap.objs.size) (o:=.own (s.heap.objs.size+1)) (h':=s.heap.push emptyDict) (t':=s.toks) (λb u q=>Heap.get?_push_of_some _ q) (Nat.le_refl _) ⟨_,e1⟩;refine I1.laid (a:=s.heap.objs.size+1) (o:=.ins C s.heap.objs.size []) (t':=s.toks) (λb u q=>Heap.get?_push_of_some _ q) (Nat.le_of_eq (Heap.size_push _ _)) ?_;have ne:s.heap.objs.size≠s.heap.objs.size+1:=Nat.ne_of_lt (Nat.lt_succ_self _)
 refine⟨by rw [Zc ne,Zm],Nat.zero_le _,ne,e2,λ_=>none,(Heap.Ns1.of_empty e3).at λo q=>Heap.get?_push_of_some _ q,λ_=>True.intro,λy hy=>absurd rfl hy⟩
theorem Zgc {prog:Program} {w:World} {env:Env} {e:Expr} {f:Str} {pos:Pos} {s:Shared} {Q:Value->Shared->Prop} (hb:attributeBase e f env (eval e env)=eval e env)
 (h:wpAny (model prog w) A (eval e env) (λo s₁=>wpAny (model prog w) A (getAttr o f true) Q E s₁) E s):wpAny (model prog w) A (eval (.Attribute e f pos) env) Q E s:=
 Attribute_any_ h (by rw [arm_eval_Attribute,hb])
end
def JH(K:PySem.W.Frag)(ta:TE)(f:Str):TE:=λσ H Q=>ta σ H λx H1=>∃a C dx fs v,x = .ref a/\H1 a=some (.ins C dx fs)/\Cls K C/\NoAttr K C f/\fs.lookup f=some v/\Q v H1
def Zj3(K:PySem.W.Frag)(ta tv:TE)(f:Str):TS:=λD σ H=>tv σ H λy H1=>ta σ H1 λx H2=>∃a C dx fs,x = .ref a/\H2 a=some (.ins C dx fs)/\Cls K C/\NoAttr K C f/\fs.length<1000 /\
 D.nx σ (upd H2 a (.ins C dx (Z7 f y fs)))
section
variable{X:Cx}{o e value:Expr}{f:Str}{pos pos' tpos:Pos}{ta tv:TE}
theorem ZhV(he:PE X e ta)(hb:attributeBase e f X.env (eval e X.env)=eval e X.env):PE X (.Attribute e f pos) (JH X.K ta f):=by
 intro pins s σ H Q I h;refine Zgc hb (thn (he pins s σ H _ I h) λu s1 ⟨x,H1,I1,rx,a,C,dx,fs,v,ex,ea,c,n,l,q⟩ => ?_);subst ex;obtain rfl:u=Value.ref a:=rx;exact Zcp I1 ea c n l λu' s2 I2 ru=>⟨v,H1,I2,ru,q⟩
theorem Zfk(ha:PE X o ta)(hv:PE X value tv)(hs:swapsWith value (some (.Attribute o f pos')) pos.line X.env=pure false):PS X (.Assign [.Attribute o f pos'] value pos) (Zj3 X.K ta tv f):=by
 intro pins s σ H D I h;refine plainObj_wpAny_Assign_Attribute (thn (hv pins s σ H _ I h) λu s1 ⟨y,H1,I1,ry,q⟩=>thn (ha pins s1 σ H1 _ I1 q) λov s2 ⟨x,H2,I2,rx,a,C,dx,fs,ex,ea,c,n,l,q2⟩ => ?_) hs;subst ex;obtain rfl:ov=Value.ref a:=rx;exact Zcr I2 ea c n l ry λs3 I3=>⟨σ,_,I3,q2⟩
end
section
variable{X:Cx}{pins:List (Addr×Obj)}{σ:St}{H:Hp}{s:Shared}{A:Around}{E:Value->Shared->Prop}{Q:Value->Shared->Prop}{c:Value}{b:Bool}
inductive TyOf(K:PySem.W.Frag)(H:Hp):V->Value->Prop where
 |non:TyOf K H .non (.type "NoneType")
 |bl (x:Bool):TyOf K H (.bl x) (.type "bool")
 |int (i:Int):TyOf K H (.int i) (.type "int")
 |str (x:Str):TyOf K H (.str x) (.type "str")
 |flt (x:UInt64):TyOf K H (.flt x) (.type "float")
 |lst {a:Addr} {xs:List V} (e:H a=some (.lst xs)):TyOf K H (.ref a) (.type "list")
 |frz {a:Addr} {o:Obj} {xs:List V} (e:H a=some (.frz o (.lst xs))):TyOf K H (.ref a) (.type "list")
 |tup {a:Addr} {xs:List V} (e:H a=some (.tup xs)):TyOf K H (.ref a) (.type "tuple")
 |dK {a:Addr} {kvs:List (Key×V)} (e:H a=some (.dK kvs)):TyOf K H (.ref a) (.type "dict")
 |dT {a:Addr} {kvs:List (List Key×V)} (e:H a=some (.dT kvs)):TyOf K H (.ref a) (.type "dict")
 |ins {a C dx:Addr} {fs:List (Str×V)} (e:H a=some (.ins C dx fs)) (cl:Cls K C) (ha:PySem.W.findIn K (.ref C) "__class__" = some (some (.builtin "object.__class__")))
  (hn:PySem.W.specialIn K (.builtin "object.__class__") "__get__" = some (some (.builtin "getset_descriptor.__get__"))) (htk:PySem.W.takesIn K (.builtin "object.__class__")=some true)
  (hm:PySem.W.mroIn K C (.type "object")=some true):TyOf K H (.ref a) (.ref C)
theorem ZdR{x:V}{u t:Value}(I:Inv X pins σ H s)(rx:RelV x u)(ty:TyOf X.K H x t)(e:kitOne X.K t c=some b)(h:∀tk,Q (.bool b) { s with toks:=tk }) :
 wpAny (model X.prog X.w) A (call (.builtin "isinstance") [u,c]) Q E s:=by
 cases ty with
 |non=>cases(show u=Value.none from rx);exact PySem.W.kia_one PySem.W.kitx_none I.kIn True.intro e (λz=>nomatch z) h
 |bl y=>cases(show u=Value.bool y from rx);exact PySem.W.kia_one PySem.W.kitx_bool I.kIn True.intro e (λz=>nomatch z) h
 |int i=>obtain⟨t,q⟩:=(show ∃t,u=Value.int i t from rx);cases q;exact PySem.W.kia_one PySem.W.kitx_int I.kIn True.intro e (λz=>nomatch z) h
 |str y=>obtain⟨t,q⟩:=(show ∃t,u=Value.str y t from rx);cases q;exact PySem.W.kia_one PySem.W.kitx_str I.kIn True.intro e (λz=>nomatch z) h
 |flt y=>obtain⟨t,q⟩:=(show ∃t,u=Value.float y t from rx);cases q;exact PySem.W.kia_one PySem.W.kitx_float I.kIn True.intro e (λz=>nomatch z) h
 | @lst a xs ea=>
  cases(show u=Value.ref a from rx);obtain⟨_,_,n,_,h1⟩:=(show ObjOk X.prog X.w H s.heap a (.lst xs)from I.hok a _ ea)
  exact PySem.W.kia_one PySem.W.kitx_list I.kIn ⟨_,h1,rfl⟩ e (λz=>nomatch z) h
 | @frz a ob xs ea=>
  cases(show u=Value.ref a from rx);obtain⟨_,_,_,n,_,h1⟩:=(show ObjOk X.prog X.w H s.heap a (.frz ob (.lst xs))from I.hok a _ ea)
  exact PySem.W.kia_one PySem.W.kitx_list I.kIn ⟨_,h1,rfl⟩ e (λz=>nomatch z) h
 | @tup a xs ea=>
  cases(show u=Value.ref a from rx);obtain⟨_,_,_,p⟩:=(show ObjOk X.prog X.w H s.heap a (.tup xs)from I.hok a _ ea)
  obtain⟨o,h1,h2,_⟩:=p;exact PySem.W.kia_one PySem.W.kitx_tuple I.kIn ⟨o,h1,h2⟩ e (λz=>nomatch z) h
 | @dK a kvs ea=>
  cases(show u=Value.ref a from rx);obtain⟨_,_,vs,_,p⟩:=(show ObjOk X.prog X.w H s.heap a (.dK kvs)from I.hok a _ ea)
  obtain⟨o,es,ep,h1,h2,_⟩:=p;exact PySem.W.kia_one PySem.W.kitx_dict I.kIn ⟨o,h1,h2.1⟩ e (λz=>nomatch z) h
 | @dT a kvs ea=>
  cases(show u=Value.ref a from rx);obtain⟨_,_,xs,_,o,es,ep,h1,h2,_⟩:=(show ObjOk X.prog X.w H s.heap a (.dT kvs)from I.hok a _ ea)
  exact PySem.W.kia_one PySem.W.kitx_dict I.kIn ⟨o,h1,h2.1⟩ e (λz=>nomatch z) h
 | @ins a C dx fs ea cl ha hn htk hm=>
  cases(show u=Value.ref a from rx);obtain⟨mA,O,_⟩:=ins_get I.hok ea;obtain⟨od,J,_⟩:=O.look;exact PySem.W.kia_one (PySem.W.kitx_own (cl.get _) cl.hd ha hn htk hm) I.kIn J e (λz=>nomatch z) h
end
end L2
namespace L2
open PySem PySem.Spec PyProof.Rows
structure Room(k:Nat)(A:Around):Prop where
 hd:A.handled=none
 dp:A.depth+3*k+5<recursionLimit
 un:A.units+16*k+200<cLine
theorem Room.mono{j k:Nat}{A:Around}(r:Room k A)(h:j<=k):Room j A:=⟨r.hd,by have:=r.dp;omega,by have:=r.un;omega⟩
theorem Room.deeper{k:Nat}{A:Around}(r:Room (k+1) A)(env:Env):Room k (A.deeper env):=
 ⟨r.hd,by have:=r.dp;show A.depth+1+3*k+5<_;omega,by have:=r.un;show A.units+3+16*k+200<_;omega⟩
theorem Zcs{A:Around}{C:Addr}{us:List Value}{kw:List (Str×Value)}:(A.under (.builtin "type.__call__" ⟨.ref C::us,kw⟩)).depth=A.depth+1:=by
 first|rfl|simp [Around.under,Code.weight,Code.isCreation,Code.isGuard,Code.isCaller,Code.frames,Code.isFrame,guardIds]
theorem Zct{A:Around}{C:Addr}{us:List Value}{kw:List (Str×Value)}:(A.under (.builtin "type.__call__" ⟨.ref C::us,kw⟩)).units=A.units+1:=by
 first|rfl|simp [Around.under,Code.cUnits,Code.frames,Code.isFrame]
theorem Room.make{k:Nat}{A:Around}(r:Room (k+1) A)(C:Addr)(us:List Value)(kw:List (Str×Value)):Room k (A.under (.builtin "type.__call__" ⟨.ref C::us,kw⟩)):=
 ⟨r.hd,by have:=r.dp;rw [Zcs];omega,by have:=r.un;rw [Zct];omega⟩
theorem Room.depth{k:Nat}{A:Around}(r:Room k A):A.depth<recursionLimit:=by have:=r.dp;omega
theorem Room.units{k:Nat}{A:Around}(r:Room k A):A.units+64<cLine:=by have:=r.un;omega
def tNil:TA:=λ_ H Q=>Q [] H
def Z0(ta:TE)(tr:TA):TA:=λσ H Q=>ta σ H λx H1=>tr σ H1 λxs H2=>Q (x::xs) H2
section
variable{X:Cx}{e:Expr}{es:List Expr}{te:TE}{t:TA}{pos:Pos}
theorem Zg:PA X [] tNil:=λ_ _ _ _ H Q I h=>Calls.spliced_nil ⟨[],H,I,.nil,h⟩
theorem Zf(ha:PE X e te)(hr:PA X es t)(hs:starEach (e::es) X.env=(false,eval e X.env)::starEach es X.env:=by rfl):PA X (e::es) (Z0 te t):=by
 intro pos pins s σ H Q I h;rw [hs];show wpAny _ _ (spliced ((false,eval e X.env)::backTo pos (starEach es X.env))) _ _ s;refine Calls.spliced_cons (thn (ha pins s σ H _ I h) λu s1 ⟨x,H1,I1,r1,q1⟩ => ?_);exact thn (hr pos pins s1 σ H1 _ I1 q1) λus s2 ⟨xs,H2,I2,r2,q2⟩=>⟨x::xs,H2,I2,.cons r1 r2,q2⟩
def Zj4(t:TA):TE:=λσ H Q=>t σ H λxs H1=>xs.length<=sizeLine/\∀p,H1 p=none->Q (.ref p) (upd H1 p (.tup xs))
def Vq(t:TA):TE:=λσ H Q=>t σ H λxs H1=>xs.length<=sizeLine/\∀p,H1 p=none->Q (.ref p) (upd H1 p (.lst xs))
theorem JI{x1}(h:PA X es t):PE X (.Tuple es x1 pos) (Zj4 t):=by
 intro pins s σ H Q I hq;refine wpAny_Tuple_spliced (thn (h pos pins s σ H _ I hq) λus s1 ⟨xs,H1,I1,r,z,q⟩=>⟨by rw [<-r.length];exact z,?_⟩);have hf:H1 s1.heap.objs.size=none:=I1.hok.fresh (Nat.le_refl _);refine⟨.ref s1.heap.objs.size,upd H1 s1.heap.objs.size (.tup xs),I1.laid (t':=s1.toks) (λb u e=>Heap.get?_push_of_some _ e) (Nat.le_refl _) ?_,rfl,q _ hf⟩;exact⟨z,us,r,⟨_,Heap.get?_push_size _ rfl,rfl,⟨_,rfl⟩,rfl⟩⟩
theorem YJ(h:PA X es t):PE X (.List es pos) (Vq t):=by
 intro pins s σ H Q I hq;refine wpAny_List_spliced (thn (h pos pins s σ H _ I hq) λus s1 ⟨xs,H1,I1,r,z,q⟩=>⟨by rw [<-r.length];exact z,?_⟩);have hf:H1 s1.heap.objs.size=none:=I1.hok.fresh (Nat.le_refl _);refine⟨.ref s1.heap.objs.size,upd H1 s1.heap.objs.size (.lst xs),I1.laid (t':=s1.toks) (λb u e=>Heap.get?_push_of_some _ e) (Nat.le_refl _) ?_,rfl,q _ hf⟩;exact⟨z,us,0,r,Heap.get?_push_size _ rfl⟩
end
abbrev Sp:=List V->Hp->VK->XK->Prop
abbrev CXT:=List Env->Hp->Shared->XK->Value->Shared->Prop
structure Env0(P:Program)(w:World)(K:PySem.W.Frag)(mg:Str->Option Value)(base:Heap)(A:Around)(outer:List Env)(s:Shared)(H:Hp):Prop where
 frames:A.frames=some outer
 mod:Mod K mg base
 bs:∀b o,base.get? b=some o->s.heap.get? b=some o/\H b=none
 bsz:base.objs.size<=s.heap.objs.size
 funs:s.heap.FunFrames base outer
 frf:∀b∈frs outer,H b=none
 hok:HOk P w H s.heap
 bare:AllBare s.gens
 tb:Js K H
def CE(outer:List Env)(P:Program)(w:World)(H:Hp)(s:Shared)(Q:VK)(u:Value)(s':Shared):Prop:=
 ∃v H',s'.os=s.os/\AllBare s'.gens/\Un (frs outer) [] H H' s.heap s'.heap/\HOk P w H' s'.heap/\RelV v u/\Q v H'
def CR(CX:CXT)(outer:List Env)(P:Program)(w:World)(H:Hp)(s:Shared)(Q:VK)(E:XK)(r:Result)(s':Shared):Prop:=
 match r with
 | .ok (.ret u)=>CE outer P w H s Q u s'
 | .ok _=>False
 | .error e=>CX outer H s E e s'
structure FnOk(P:Program)(w:World)(K:PySem.W.Frag)(mg:Str->Option Value)(base:Heap)(CX:CXT)(k:Nat)(f:Addr)(fd:FuncData)(ps:List Str)(sp:Sp):Prop where
 len:∀vs H Q E,sp vs H Q E->vs.length=ps.length
 run:∀(A:Around)(outer:List Env)(s:Shared)(H:Hp)(args:Args)(us:List Value)(vs:List V)(Q:VK)(E:XK),Room k A->Env0 P w K mg base A outer s H->BindsTo s fd args (ps.zip us)->Vals vs us->sp vs H Q E ->
  codeAny (model P w) A (.call (.ref f) args) (CR CX outer P w H s Q E) s
theorem FnOk.mono{P:Program}{w:World}{K:PySem.W.Frag}{mg:Str->Option Value}{base:Heap}{CX:CXT}{j k:Nat}{f:Addr}{fd:FuncData}{ps:List Str}{sp:Sp}(F:FnOk P w K mg base CX j f fd ps sp)(h:j<=k) :
 FnOk P w K mg base CX k f fd ps sp:=⟨F.len,λA outer s H args us vs Q E hr=>F.run A outer s H args us vs Q E (hr.mono h)⟩
theorem FnOk.imp {P:Program} {w:World} {K:PySem.W.Frag} {mg:Str->Option Value} {base:Heap} {CX:CXT} {k:Nat} {f:Addr} {fd:FuncData} {ps:List Str} {sp sp':Sp} (F:FnOk P w K mg base CX k f fd ps sp)
 (h:∀vs H Q E,sp' vs H Q E->sp vs H Q E):FnOk P w K mg base CX k f fd ps sp':=
 ⟨λvs H Q E q=>F.len vs H Q E (h _ _ _ _ q),λA outer s H args us vs Q E hr he hb hv hs=>F.run A outer s H args us vs Q E hr he hb hv (h _ _ _ _ hs)⟩
theorem Env0.make{P:Program}{w:World}{K:PySem.W.Frag}{mg:Str->Option Value}{base:Heap}{A:Around}{outer:List Env}{s:Shared}{H:Hp}(e:Env0 P w K mg base A outer s H)(C:Addr)(us:List Value)(kw:List (Str×Value)) :
 Env0 P w K mg base (A.under (.builtin "type.__call__" ⟨.ref C::us,kw⟩)) outer s H:=⟨by first|exact e.frames|(simpa [Around.under,Code.envs,Code.isFrame,pushEnvs]using e.frames),e.mod,e.bs,e.bsz,e.funs,e.frf,e.hok,e.bare,e.tb⟩
section
variable{X:Cx}{pins:List (Addr×Obj)}{σ:St}{H:Hp}{s s':Shared}
theorem Inv.tabs(I:Inv X pins σ H s):Js X.K H:=λq hq=>by
 obtain⟨m1,e1⟩:=I.ok.tb q hq;obtain⟨m2,e2⟩:=I.base.tbls _ _ e1;exact⟨m1++m2,by rw [e2,Array.append_assoc]⟩
theorem Inv.env0(I:Inv X pins σ H s):Env0 X.prog X.w X.K X.mg X.base X.A X.stack s H:=
 ⟨I.ok.frames,I.ok.mod,I.bs,Nat.le_trans I.ok.bsz I.sz,I.stack,I.stkFree,I.hok,I.bare,I.tabs⟩
theorem Inv.after{Q:VK}{u:Value}(I:Inv X pins σ H s)(h:CE X.stack X.prog X.w H s Q u s'):EP X pins σ Q u s':=by
 obtain⟨v,H',os,bare,un,hok,r,q⟩:=h;obtain⟨hh,g,d,t,os'⟩:=s';obtain rfl:os'=s.os:=os;exact⟨v,H',I.call (h':=hh) (g':=g) (d':=d) (t':=t) (ch:=[]) un hok bare (λb z=>absurd z (by simp)),r,q⟩
end
def Qn(sp:Sp)(dvs:List V)(E:XK)(t:TA):TE:=λσ H Q=>t σ H λvs H1=>sp (vs++dvs) H1 Q E
def Zhs(C:Addr)(sp:Sp)(dvs:List V)(E:XK)(t:TA):TE:=λσ H Q=>t σ H λvs H1=>∀x dx,H1 x=none->H1 dx=none->dx≠x ->
 sp (.ref x::(vs++dvs)) (upd (upd H1 dx (.own x)) x (.ins C dx [])) (λv H2=>v = .non/\Q (.ref x) H2) E
def Binds(K:PySem.W.Frag)(fd:FuncData)(ps:List Str)(ds:List Value):Prop:=
 ∀(s:Shared)(us:List Value),K.In s.heap->(us++ds).length=ps.length->BindsTo s fd ⟨us,[]⟩ (ps.zip (us++ds))
theorem Binds.all{K:PySem.W.Frag}{fd:FuncData}{ps:List Str}(h:∀us:List Value,us.length=ps.length->bindArgs fd ⟨us,[]⟩=pure (ps.zip us)):Binds K fd ps []:=λs us _ hl=>by
 rw [List.append_nil]at hl ⊢;exact .of_eq (h us hl)
def Uy(CX:CXT)(X:Cx)(E:XK):Prop:=∀(pins:List (Addr×Obj))(σ:St)(H:Hp)(s:Shared)(e:Value)(s':Shared),Inv X pins σ H s->CX X.stack H s E e s'->X.xe e s'
section
variable{X:Cx}{CX:CXT}{k:Nat}{f C:Addr}{fd:FuncData}{ps:List Str}{sp:Sp}{dvs:List V}{ds:List Value}{E:XK}{x m:Str}{p pos apos:Pos}{e o:Expr}{es:List Expr}{ta:TE}{t:TA}
theorem JJ {pins:List (Addr×Obj)} {σ:St} {H:Hp} {s:Shared} {Q:VK} {us:List Value} {vs:List V} (F:FnOk X.prog X.w X.K X.mg X.base CX k f fd ps sp) (hr:Room k X.A) (hb:Binds X.K fd ps ds) (hd:Vals dvs ds) (hx:Uy CX X E)
 (I:Inv X pins σ H s) (r:Vals vs us) (h:sp (vs++dvs) H Q E):wpAny (model X.prog X.w) X.A (call (.ref f) us) (EP X pins σ Q) X.xe s:=by
 have r2:Vals (vs++dvs) (us++ds):=r.append hd;have hl:(us++ds).length=ps.length:=by rw [<-r2.length];exact F.len _ _ _ _ h
 refine wpAny_call (codeAny_mono (F.run X.A X.stack s H ⟨us,[]⟩ (us++ds) (vs++dvs) Q E hr I.env0 (hb s us I.kIn hl) r2 h) λr s' hq => ?_);cases r with
 |error e=>exact hx pins σ H s e s' I hq
 |ok fl=>
  cases fl with
  |ret u=>exact I.after hq
  |next=>exact False.elim hq
  |brk=>exact False.elim hq
  |cont=>exact False.elim hq
theorem Yr (F:FnOk X.prog X.w X.K X.mg X.base CX k f fd ps sp) (hr:Room k X.A) (hg:Gl X x) (hm:X.mg x=some (.ref f)) (hk:keepIn X.K (.ref f)=true) (hb:Binds X.K fd ps ds) (hd:Vals dvs ds) (hx:Uy CX X E)
 (ha:PA X (e::es) t) (hdb:(x == ("__debug__" : Str))=false:=by decide) (he:starEach (e::es) X.env=(false,eval e X.env)::starEach es X.env:=by rfl) (hpl:(backTo pos (starEach es X.env)).any (·.1)=false:=by rfl) :
 PE X (.Call (.Name x p) (e::es) [] pos) (Qn sp dvs E t):=by
 intro pins s σ H Q I h;refine wpAny_Call_Name_kw (Ju I hg hm ?_ hdb);refine PySem.W.callWith_K (h₀:=X.base) I.ok.mod.kin hk (thn (ha pos pins s σ H _ I h) λus s1 ⟨vs,H1,I1,r,q⟩=>⟨I1.kIn,?_⟩) he hpl;exact JJ F hr hb hd hx I1 r q
structure Mk(K:PySem.W.Frag)(C f:Addr):Prop where
 makes:PySem.W.makesIn K C=true
 init:PySem.W.findIn K (.ref C) "__init__" = some (some (.ref f))
 fn:isFn K (.ref f)=true
 kp:keepIn K (.ref C)=true
theorem Zev {pins:List (Addr×Obj)} {σ:St} {H:Hp} {s:Shared} {Q:VK} {us:List Value} {vs:List V} (M:Mk X.K C f) (F:FnOk X.prog X.w X.K X.mg X.base CX k f fd ps sp) (hr:Room (k+1) X.A) (hb:Binds X.K fd ps ds) (hd:Vals dvs ds)
 (hx:Uy CX X E) (I:Inv X pins σ H s) (r:Vals vs us)
 (h:∀x dx,H x=none->H dx=none->dx≠x->sp (.ref x::(vs++dvs)) (upd (upd H dx (.own x)) x (.ins C dx [])) (λv H2=>v = .non/\Q (.ref x) H2) E) :
 wpAny (model X.prog X.w) X.A (call (.ref C) us) (EP X pins σ Q) X.xe s:=by
 have hq:=h (s.heap.objs.size+1) s.heap.objs.size (I.hok.fresh (Nat.le_succ _)) (I.hok.fresh (Nat.le_refl _)) (Nat.ne_of_lt (Nat.lt_succ_self _));have I2:=Inv.made (C:=C) I;have r2:Vals (V.ref (s.heap.objs.size+1)::(vs++dvs)) (Value.ref (s.heap.objs.size+1)::(us++ds)) := .cons rfl (r.append hd)
 have hl:(Value.ref (s.heap.objs.size+1)::us++ds).length=ps.length:=by
  have e:=r2.length;rw [F.len _ _ _ _ hq]at e;exact e.symm
 refine wpAny_call (Zeu (f:=f) I.kIn M.makes M.init (beq_iff_eq.mp M.fn) (codeAny_mono (F.run _ X.stack _ _ ⟨Value.ref (s.heap.objs.size+1)::us,[]⟩ (Value.ref (s.heap.objs.size+1)::(us++ds)) _ _ E (hr.make C us [])
  (I2.env0.make C us []) (hb _ (Value.ref (s.heap.objs.size+1)::us) I2.kIn hl) r2 hq) λr s' hq' => ?_))
 cases r with
 |error e=>exact hx pins σ _ _ e s' I2 hq'
 |ok fl=>
  cases fl with
  |ret u=>
   obtain⟨v,H',I3,rv,ev,q3⟩:=I2.after hq';subst ev;exact⟨rv,⟨V.ref (s.heap.objs.size+1),H',I3,rfl,q3⟩⟩
  |next=>exact False.elim hq'
  |brk=>exact False.elim hq'
  |cont=>exact False.elim hq'
theorem Zgd (M:Mk X.K C f) (F:FnOk X.prog X.w X.K X.mg X.base CX k f fd ps sp) (hr:Room (k+1) X.A) (hg:Gl X x) (hm:X.mg x=some (.ref C)) (hb:Binds X.K fd ps ds) (hd:Vals dvs ds) (hx:Uy CX X E)
 (ha:PA X (e::es) t) (hdb:(x == ("__debug__" : Str))=false:=by decide) (he:starEach (e::es) X.env=(false,eval e X.env)::starEach es X.env:=by rfl) (hpl:(backTo pos (starEach es X.env)).any (·.1)=false:=by rfl) :
 PE X (.Call (.Name x p) (e::es) [] pos) (Zhs C sp dvs E t):=by
 intro pins s σ H Q I h;refine wpAny_Call_Name_kw (Ju I hg hm ?_ hdb);refine PySem.W.callWith_K (h₀:=X.base) I.ok.mod.kin M.kp (thn (ha pos pins s σ H _ I h) λus s1 ⟨vs,H1,I1,r,q⟩=>⟨I1.kIn,?_⟩) he hpl;exact Zev M F hr hb hd hx I1 r q
end
section
variable{X:Cx}{CX:CXT}{k:Nat}{f C:Addr}{fd:FuncData}{ps ks:List Str}{sp:Sp}{E:XK}{x m:Str}{p pos apos kpos:Pos}{e o:Expr}{es:List Expr}{kws:List Keyword}{te ta:TE}{t tk:TA}{nm:Option Str}
structure KBinds(K:PySem.W.Frag)(fd:FuncData)(ps ks:List Str)(g:List Value->List Value->List Value)(gV:List V->List V->List V):Prop where
 to:∀(s:Shared)(us ws:List Value),K.In s.heap->(g us ws).length=ps.length->BindsTo s fd ⟨us,ks.zip ws⟩ (ps.zip (g us ws))
 rel:∀{vs:List V}{us:List Value}{zs:List V}{ws:List Value},Vals vs us->Vals zs ws->Vals (gV vs zs) (g us ws)
variable{g:List Value->List Value->List Value}{gV:List V->List V->List V}
end
structure FnScope(N P:List Str)(sc:Scope):Prop where
 kind:sc.kind = .function
 co:sc.isCoroutine=false
 gen:sc.isGenerator=false
 nd:N.Nodup
 pre:N.take P.length=P
 par:∀x∈P,sc.names.lookup x=some .local\/sc.names.lookup x=some .cell
 nofree:∀y∈sc.names,y.2 ≠ .free
theorem ZaW{kindOf:Str->Option NameKind}{x:Str}:∀{binds:List (Str×Value)}{m:Str->Option Value},(∀v,(x,v)∉binds)->bindL kindOf binds m x=m x
 | [],_,_=>rfl
 |(n,v)::r,m,h=>by
  unfold bindL;rw [ZaW λw hw=>h w (List.mem_cons_of_mem _ hw)]
  split
  · have:x≠n:=by rintro rfl;exact h v List.mem_cons_self
    simp [this]
  · rfl
theorem ZaX{kindOf:Str->Option NameKind}{x:Str}:∀{binds:List (Str×Value)}{m:Str->Option Value},(∀v,(x,v)∉binds)->bindC kindOf binds m x=m x
 | [],_,_=>rfl
 |(n,v)::r,m,h=>by
  unfold bindC;rw [ZaX λw hw=>h w (List.mem_cons_of_mem _ hw)]
  split
  · rfl
  · have:x≠n:=by rintro rfl;exact h v List.mem_cons_self
    simp [this]
theorem ZaY{kindOf:Str->Option NameKind}{x:Str}{v:Value}:∀{P:List Str}{vs:List Value}{i:Nat}{m:Str->Option Value},P.Nodup->P[i]? = some x->vs[i]? = some v->kindOf x=some .local ->
 bindL kindOf (P.zip vs) m x=some v
 | [],_,_,_,_,h,_,_=>by simp at h
 |_::_,[],_,_,_,_,h,_=>by simp at h
 |p::P,w::vs,0,m,nd,h1,h2,hk=>by
  simp at h1 h2;subst h1;subst h2;show bindL kindOf ((p,w)::P.zip vs) m p=_;unfold bindL;rw [ZaW λv hv=>(List.nodup_cons.mp nd).1 (List.of_mem_zip hv).1,if_pos hk];simp
 |p::P,w::vs,i+1,m,nd,h1,h2,hk=>by
  show bindL kindOf ((p,w)::P.zip vs) m x=_;unfold bindL;exact ZaY (i:=i) (List.nodup_cons.mp nd).2 (by simpa using h1) (by simpa using h2) hk
theorem ZaZ{kindOf:Str->Option NameKind}{x:Str}{v:Value}:∀{P:List Str}{vs:List Value}{i:Nat}{m:Str->Option Value},P.Nodup->P[i]? = some x->vs[i]? = some v->kindOf x≠some .local ->
 bindC kindOf (P.zip vs) m x=some v
 | [],_,_,_,_,h,_,_=>by simp at h
 |_::_,[],_,_,_,_,h,_=>by simp at h
 |p::P,w::vs,0,m,nd,h1,h2,hk=>by
  simp at h1 h2;subst h1;subst h2;show bindC kindOf ((p,w)::P.zip vs) m p=_;unfold bindC;rw [ZaX λv hv=>(List.nodup_cons.mp nd).1 (List.of_mem_zip hv).1,if_neg hk];simp
 |p::P,w::vs,i+1,m,nd,h1,h2,hk=>by
  show bindC kindOf ((p,w)::P.zip vs) m x=_;unfold bindC;exact ZaZ (i:=i) (List.nodup_cons.mp nd).2 (by simpa using h1) (by simpa using h2) hk
def start(N:List Str)(vs:List V):St:=vs.map some++List.replicate (N.length-vs.length) none
def Yg(CX:CXT)(P:Program)(w:World)(K:PySem.W.Frag)(mg:Str->Option Value)(base:Heap)(N:List Str)(qual:Str)(scope:Scope)(f:Addr)(cd:Value)(A:Around)(outer:List Env)(s:Shared)(H:Hp)(E:XK):Cx where
 prog:=P
 w:=w
 K:=K
 mg:=mg
 base:=base
 A:=A.deeper (envOfC qual scope s.heap.objs.size f cd)
 N:=N
 s₀:=s
 H₀:=H
 env:=envOfC qual scope s.heap.objs.size f cd
 outer:=outer
 stack:=envOfC qual scope s.heap.objs.size f cd::outer
 ex:=[]
 calm:=true
 fn:=λ_=>true
 pn:=[]
 xe:=λe s'=>wpAny (model P w) (A.deeper (envOfC qual scope s.heap.objs.size f cd)) (leaving (envOfC qual scope s.heap.objs.size f cd) e) (λ_ s''=>CX outer H s E e s'') (λe' s''=>CX outer H s E e' s'') s'
theorem ZbV{sc:Scope}{n:Nat}{x:Str}(h:sc.names.lookup x=some .cell):∃c,(cellsFrom n sc.names []).lookup x=some c:=by
 have q:=PySem.W.cellsFrom_some sc.names n [] (.inl h);exact Option.isSome_iff_exists.mp q
theorem Za0 {CX:CXT} {P:Program} {w:World} {K:PySem.W.Frag} {mg:Str->Option Value} {base:Heap} {N ps:List Str} {qual:Str} {scope:Scope} {f:Addr} {cd:Value} {A:Around} {outer:List Env} {s s1:Shared} {H:Hp} {E:XK} {us:List Value} {vs:List V}
 (S:FnScope N ps scope) (hd:A.handled=none) (e0:Env0 P w K mg base A outer s H) (hl:vs.length=ps.length) (r:Vals vs us)
 (x:InCallC s s.heap.objs.size (bindL (envOfC qual scope s.heap.objs.size f cd).kindOf (ps.zip us) λ_=>none) (cellsFrom (s.heap.objs.size+1) scope.names []) (bindC (envOfC qual scope s.heap.objs.size f cd).kindOf (ps.zip us) λ_=>none) s1) :
 Inv (Yg CX P w K mg base N qual scope f cd A outer s H E) [] (start N vs) H s1:=by
 have hpl:ps.length<=N.length:=by have:=congrArg List.length S.pre;rw [List.length_take]at this;omega
 obtain⟨h1,tk,rfl,hk⟩:=x.done;have noA:∀b:Addr,b∉(Yg CX P w K mg base N qual scope f cd A outer s H E).ex:=λb z=>absurd (show b∈([]:List Addr)from z) (by simp)
 refine⟨⟨e0.mod,S.kind,rfl,rfl,Nat.le_refl _,λy z c h1 h2 => ?_,λy hy => ?_,λy c _ h => ?_,λ_=>hd,Around.frames_deeper e0.frames,.inr ⟨rfl,rfl⟩,λb z=>absurd z (noA b),e0.bs,e0.bsz,λb _ _=>noA b,λb z=>absurd z (noA b),e0.funs,e0.frf,e0.tb⟩,
  rfl,e0.bare,Un.kept hk,⟨_,x.toInCall.ns,λi y v h1 h2 h3 => ?_⟩,λy c h=>⟨_,x.cell y c h⟩,e0.hok.fresh (Nat.le_refl _),λy c h => ?_,λp hp=>absurd (show p∈([]:List (Addr×Obj))from hp) (by simp),e0.hok.kept hk,?_,λq hq=>absurd (show q∈([]:List (Addr×Obj×Str))from hq) (by simp)⟩
 · exact name_of_addr x.apart (PySem.mem_of_lookup h1) (PySem.mem_of_lookup h2)
 · have hy:scope.names.lookup y=some .cell\/scope.names.lookup y=some .free:=hy
   rcases hy with hy|hy
   · exact ZbV hy
   · exact absurd rfl (S.nofree _ (PySem.mem_of_lookup hy))
 · exact Nat.le_of_lt (x.above y c (PySem.mem_of_lookup h))
 · have hi : i < vs.length := by
    unfold start at h2
    by_cases hi:i<vs.length
    · exact hi
    · rw [List.getElem?_append_right (by simpa using hi)]at h2
      rw [List.getElem?_replicate]at h2
      split at h2<;>cases h2
   have ha:vs[i]? = some v:=by
    unfold start at h2;rw [List.getElem?_append_left (by simpa using hi),List.getElem?_map]at h2;cases e:vs[i]? with
    |none=>rw [e]at h2;cases h2
    |some a=>rw [e]at h2;cases h2;rfl
   obtain⟨u,hu,rv⟩:=r.get ha
   have hp:ps[i]? = some y:=by
    rw [<-S.pre,List.getElem?_take_of_lt (by omega)];exact h1
   have ndP:ps.Nodup:=by rw [<-S.pre];exact S.nd.sublist (List.take_sublist _ _)
   refine⟨u,rv,?_⟩;rcases S.par y (List.mem_of_getElem? hp)with k|k
   · exact .inl ⟨k,ZaY ndP hp hu k⟩
   · obtain⟨c,e⟩:=ZbV (n:=s.heap.objs.size+1) k
     refine .inr ⟨.inl k,c,e,?_⟩;have q:=x.cell y c e;rw [ZaZ ndP hp hu (by show scope.names.lookup y≠_;rw [k];decide)]at q;exact q
 · exact e0.hok.fresh (Nat.le_of_lt (x.above y c (PySem.mem_of_lookup h)))
 · unfold start
   show _=N.length;rw [List.length_append,List.length_map,List.length_replicate];omega
theorem JK {CX:CXT} {P:Program} {w:World} {K:PySem.W.Frag} {mg:Str->Option Value} {base:Heap} {k:Nat} {f:Addr} {name qual:Str} {params:Arguments} {body:List Stmt} {scope:Scope} {dV kV doc pm cdv ct oc:Value} {an od:Option Addr}
 {osl:Array (Option Value)} {N ps:List Str} {sp:Sp} (lk:K.lookup f=some ⟨oc,od,.func (fnOf name qual params body scope dV kV doc pm an cdv ct),osl⟩) (hcd:codeIn K cdv qual=true) (S:FnScope N ps scope)
 (len:∀vs H Q E,sp vs H Q E->vs.length=ps.length)
 (hbody:∀(A:Around)(outer:List Env)(s:Shared)(H:Hp)(vs:List V)(Q:VK)(E:XK),Room k (A.deeper (envOfC qual scope s.heap.objs.size f cdv))->sp vs H Q E ->
   ∃t,PSs (Yg CX P w K mg base N qual scope f cdv A outer s H E) body t/\t { nx:=λ_ H'=>Q .non H',rt:=Q } (start N vs) H) :
 FnOk P w K mg base CX (k+1) f (fnOf name qual params body scope dV kV doc pm an cdv ct) ps sp:=by
 refine⟨len,λA outer s H args us vs Q E hr e0 hb r hsp => ?_⟩;have hl:=len _ _ _ _ hsp;have KX:K.In s.heap:=e0.mod.kin.keeps λb o e=>(e0.bs b o e).1
 have lim:s.heap.NoLimit:=e0.mod.nolimit.keeps λb o e=>(e0.bs b o e).1
 have hkind:∀y∈ps.zip us,scope.names.lookup y.1=some .local\/(scope.names.lookup y.1=some .cell/\((cellsFrom (s.heap.objs.size+1) scope.names []).lookup y.1).isSome=true):=λ⟨n,v⟩ hy=>by
  rcases S.par n (List.of_mem_zip hy).1 with q|q
  · exact .inl q
  · exact .inr ⟨q,PySem.W.cellsFrom_some _ _ _ (.inl q)⟩
 refine codeAny_call_function hr.depth (KX _ _ lk) rfl S.co S.gen rfl (PySem.W.codeRec_of KX hcd) (hb _ _ _ _ ?_);refine wpAny_newFunctionEnv_cells S.kind hkind λenv he s1 x => ?_
 subst he;refine⟨lim.keeps x.toInCall.keep,codeAny_func ?_⟩;obtain⟨t,ht,hq⟩:=hbody A outer s H vs Q E (hr.deeper _) hsp;have I:Inv (Yg CX P w K mg base N qual scope f cdv A outer s H E) [] (start N vs) H s1:=Za0 S hr.hd e0 hl r x;refine wpAny_mono (ht [] s1 (start N vs) H _ I hq) (λfl s' hs => ?_) λe s' hs=>hs
 have fin:∀{σ':St}{H':Hp}{v:V}{u:Value},Inv (Yg CX P w K mg base N qual scope f cdv A outer s H E) [] σ' H' s'->RelV v u->Q v H'->CE outer P w H s Q u s':=
  λ{σ' H' v u} J rv q=>⟨v,H',J.os,J.bare,J.base,J.hok,rv,q⟩
 cases fl with
 |ret u=>
  obtain⟨v,σ',H',J,rv,q⟩:=hs;exact fin J rv q
 |next=>
  obtain⟨σ',H',J,q⟩:=hs;exact fin (v:=V.non) (u:=Value.none) J rfl q
 |brk=>
  obtain⟨_,_,_,q⟩:=hs;exact False.elim q
 |cont=>
  obtain⟨_,_,_,q⟩:=hs;exact False.elim q
end L2
namespace L2
open PySem PySem.Spec PyProof.Rows
section
variable{X:Cx}{x:Str}{p pos:Pos}{e:Expr}{es:List Expr}{t:TA}{id T:String}{r:List V->Hp->VK->Prop}
def tCB(r:List V->Hp->VK->Prop)(t:TA):TE:=λσ H Q=>t σ H λvs H1=>r vs H1 Q
theorem ZQ (hc:Yq X (.builtin id) r) (hg:Gl X x) (hm:X.mg x=none) (hv:bootBuiltins x=some (.builtin id)) (ha:PA X (e::es) t) (hn:x ≠ "__name__" := by decide) (hdb:(x == ("__debug__" : Str))=false:=by decide)
 (he:starEach (e::es) X.env=(false,eval e X.env)::starEach es X.env:=by rfl) (hpl:(backTo pos (starEach es X.env)).any (·.1)=false:=by rfl):PE X (.Call (.Name x p) (e::es) [] pos) (tCB r t):=by
 intro pins s σ H Q I h;refine wpAny_Call_Name_kw (Vn I hg hm hv ?_ hn hdb);exact PyProof.Rows.callWith_builtin1 (thn (ha pos pins s σ H _ I h) λus s1 ⟨vs,H1,I1,r1,q1⟩=>hc pins s1 σ H1 vs us Q I1 r1 q1) he hpl
theorem X7 (hc:Yq X (.type T) r) (hg:Gl X x) (hm:X.mg x=none) (hv:bootBuiltins x=some (.type T)) (ha:PA X (e::es) t) (hn:x ≠ "__name__" := by decide) (hdb:(x == ("__debug__" : Str))=false:=by decide)
 (he:starEach (e::es) X.env=(false,eval e X.env)::starEach es X.env:=by rfl) (hpl:(backTo pos (starEach es X.env)).any (·.1)=false:=by rfl):PE X (.Call (.Name x p) (e::es) [] pos) (tCB r t):=by
 intro pins s σ H Q I h;refine wpAny_Call_Name_kw (Vn I hg hm hv ?_ hn hdb);exact PyProof.Rows.callWith_type1 (thn (ha pos pins s σ H _ I h) λus s1 ⟨vs,H1,I1,r1,q1⟩=>hc pins s1 σ H1 vs us Q I1 r1 q1) he hpl
end
end L2
namespace HT
open PySem PyProof.Rows
section
open PySem.SeqAt
open PySem.AutoSeq1 (wpAny_loadPart')
open PySem.MeetsSeq PySem.MeetsSeq2 PySem.MeetsSeq3
end
section
variable{prog:Program}{w:World}{A:Around}{E:Value->Shared->Prop}{s:Shared}
end
end HT
namespace L2
open PySem PySem.Spec PyProof.Rows
abbrev TO:=St->Hp->(Option Int->Hp->Prop)->Prop
section
variable{X:Cx}{e:Expr}{te:TE}{lo hi:Option Expr}{tl th:TO}{pos p2:Pos}
end
end L2
namespace L2
open PySem PySem.Spec PyProof.Rows
def ixN(n:Nat)(i:Int):Option Nat:=if 0<=i then(if i<n then some i.toNat else none)else if -(n:Int)<=i then some (i+n).toNat else none
def atI{α:Type}(xs:List α)(i:Int):Option α:=(ixN xs.length i).bind λj=>xs[j]?
theorem Zc7{n:Nat}{i:Int}{j:Nat}(h:ixN n i=some j):seqIndex? i n=some j/\j<n /\ -(n:Int)<=i/\i<n:=by
 unfold ixN at h
 by_cases h0:0<=i
 · rw [if_pos h0]at h
   by_cases h1:i<n
   · rw [if_pos h1]at h
     have e:i.toNat=j:=Option.some.inj h;exact⟨by rw [seqIndex_of h0 h1,e],by omega,by omega,h1⟩
   · rw [if_neg h1]at h;cases h
 · rw [if_neg h0]at h
   by_cases h1 : -(n:Int)<=i
   · rw [if_pos h1]at h
     have e:(i+n).toNat=j:=Option.some.inj h;exact⟨by rw [seqIndex_neg (by omega) h1,e],by omega,h1,by omega⟩
   · rw [if_neg h1]at h;cases h
theorem JL{α:Type}{xs:List α}{i:Int}{v:α}(h:atI xs i=some v):∃j,seqIndex? i xs.length=some j/\xs[j]? = some v/\j<xs.length /\ -(xs.length:Int)<=i/\i<xs.length:=by
 unfold atI at h;cases e:ixN xs.length i with
 |none=>rw [e]at h;cases h
 |some j=>
  rw [e]at h;obtain⟨h1,h2,h3,h4⟩:=Zc7 e;exact⟨j,h1,h,h2,h3,h4⟩
theorem JM{α:Type}{xs:List α}{j:Nat}{v:α}(h:xs[j]? = some v):atI xs (j:Int)=some v:=by
 have hj:j<xs.length:=(List.getElem?_eq_some_iff.mp h).1
 have e:ixN xs.length (j:Int)=some j:=by
  unfold ixN;rw [if_pos (by omega),if_pos (by omega)];simp
 unfold atI;rw [e];exact h
def Zge(b:Expr):Prop:=∀o i,subscripted b false o i=operate [o,i] (getItem o i)
def IxR(X:Cx)(r:R2):Prop:=
 ∀(value slice:Expr)(pins:List (Addr×Obj))(s:Shared)(σ:St)(H:Hp)(x y:V)(v u:Value)(Q:VK),Inv X pins σ H s->RelV x v->RelV y u->r x y H Q ->
  subscripted slice false v u=operate [v,u] (getItem v u)->wpAny (model X.prog X.w) X.A (subscriptTail value slice v u) (EP X pins σ Q) X.xe s
def MtR(X:Cx)(id:String)(r:V->List V->Hp->VK->Prop):Prop:=
 ∀(pins:List (Addr×Obj))(s:Shared)(σ:St)(H:Hp)(x:V)(xs:List V)(v:Value)(us:List Value)(Q:VK),Inv X pins σ H s->RelV x v->Vals xs us->r x xs H Q ->
  wpAny (model X.prog X.w) X.A (call (.builtin id) (v::us)) (EP X pins σ Q) X.xe s
section
variable{X:Cx}{a b:Expr}{ta tb:TE}{pos:Pos}
theorem IxR.or{r r':R2}(h:IxR X r)(h':IxR X r'):IxR X (λx y H Q=>r x y H Q\/r' x y H Q):=by
 intro value slice pins s σ H x y v u Q I rx ry q hs;rcases q with q|q
 · exact h value slice pins s σ H x y v u Q I rx ry q hs
 · exact h' value slice pins s σ H x y v u Q I rx ry q hs
theorem ZX{r:R2}(hr:IxR X r)(ha:PE X a ta)(hb:PE X b tb)(hs:Zge b):PE X (.Subscript a b pos) (tOp r ta tb):=by
 intro pins s σ H Q I h;exact Subscript_ (JE ha hb I h λv u s2 x y H2 I2 rx ry q=>hr a b pins s2 σ H2 x y v u Q I2 rx ry q (hs _ _))
def Zj5(K:PySem.W.Frag):R2:=λx y H Q=>∃p xs i v,x = .ref p/\y = .int i/\SqL K H p xs/\atI xs i=some v/\Q v H
def Zj6(K:PySem.W.Frag):R2:=λx y H Q=>∃p xs i v,x = .ref p/\y = .int i/\SqT K H p xs/\atI xs i=some v/\Q v H
def rIxS:R2:=λx y H Q=>∃z i c,x = .str z/\y = .int i/\z.length<=sizeLine/\atI z.cps.toList i=some c/\Q (.str ⟨#[c]⟩) H
theorem ix_list:IxR X (Zj5 X.K):=by
 intro value slice pins s σ H x y v u Q I rx ry h hs;obtain⟨p,xs,i,z,rfl,rfl,hq,he,q⟩:=h;cases rx;obtain⟨t,rfl⟩:=ry;obtain⟨its,r,pl,hz⟩:=I.list hq;obtain⟨j,h1,h2,h3,h4,h5⟩:=JL he;obtain⟨w,ew,rw'⟩:=r.get h2;have hl:=r.length;have hn:=V2;have fin:EP X pins σ Q w s:=⟨z,H,I,rw',q⟩
 by_cases h0:0<=i
 · have hj : i.toNat = j := by
    rw [seqIndex_of h0 h5]at h1;exact Option.some.inj h1
   exact item_listR pl.isList h0 (by omega) (by rw [hj];simpa using ew) fin hs
 · have hj : (i + (its.toArray.size : Int)).toNat = j := by
    rw [seqIndex_neg (by omega) h4]at h1;rw [List.size_toArray,<-hl];exact Option.some.inj h1
   exact subscriptTail_builtinR (x:=w) pl.isList.typeIs slot_list_getitem.lookup
    (wpAny_getItem_list_neg (Q:=λr s'=>r=w/\EP X pins σ Q r s') pl.isList (by omega) (by rw [List.size_toArray]<;>omega) (by omega) (by rw [hj];simpa using ew) ⟨rfl,fin⟩) hs
theorem ix_tup:IxR X (Zj6 X.K):=by
 intro value slice pins s σ H x y v u Q I rx ry h hs;obtain⟨p,xs,i,z,rfl,rfl,hq,he,q⟩:=h;cases rx;obtain⟨t,rfl⟩:=ry;obtain⟨its,r,pl,hz⟩:=I.tuple hq;obtain⟨j,h1,h2,h3,h4,h5⟩:=JL he;obtain⟨w,ew,rw'⟩:=r.get h2;have hl:=r.length;have hn:=V2;have fin:EP X pins σ Q w s:=⟨z,H,I,rw',q⟩
 exact subscriptTail_builtinR (x:=w) pl.typeIs slot_tuple_getitem.lookup
  (getItem_tuple (j:=j) (Q:=λr s'=>r=w/\EP X pins σ Q r s') pl (by omega) (by omega) (by rw [List.size_toArray,<-hl];exact h1) (by simpa using ew) ⟨rfl,fin⟩) hs
theorem ZhW:IxR X rIxS:=by
 intro value slice pins s σ H x y v u Q I rx ry h hs;obtain⟨z,i,c,rfl,rfl,hz,he,q⟩:=h;obtain⟨t,rfl⟩:=rx;obtain⟨t',rfl⟩:=ry;obtain⟨j,h1,h2,h3,h4,h5⟩:=JL he;have hl:z.cps.toList.length=z.length:=by simp [Str.length]
 rw [hl]at h1 h4 h5;have hn:=V2
 exact tail_any (typeIs_str s z t) slot_str_getitem.lookup (getItem_str (c:=c) (by
  have e1:decide (i < -(2 ^ 63:Int))=false:=decide_eq_false (by omega);have e2:decide (i ≥ 2 ^ 63)=false:=decide_eq_false (by omega);rw [e1,e2,Bool.or_false]) (by rw [h1];simpa using h2) ⟨.str ⟨#[c]⟩,H,I.tok _,⟨_,rfl⟩,q⟩) hs
theorem Zcu(its:List Value)(n j:Nat)(u:Value):Obj.mapSeq (·.setIfInBounds j u) { cls := .type "list",data := .seq its.toArray n }={ cls := .type "list",data := .seq (its.set j u).toArray n }:=by
 simp [Obj.mapSeq]
theorem Inv.lst{pins:List (Addr×Obj)}{σ:St}{H:Hp}{s:Shared}{p:Addr}{xs:List V}(I:Inv X pins σ H s)(h:H p=some (.lst xs)) :
 ∃(its:List Value) (n:Nat),Vals xs its/\s.heap.get? p=some { cls := .type "list",data := .seq its.toArray n }/\xs.length<=sizeLine:=by
 obtain⟨z,its,n,r,e⟩:=I.hok p _ h;exact⟨its,n,r,e,z⟩
theorem Inv.lstUpd {pins:List (Addr×Obj)} {σ:St} {H:Hp} {s:Shared} {p:Addr} {xs ys:List V} {its its':List Value} {n n':Nat} {f:Obj->Obj} (I:Inv X pins σ H s) (h:H p=some (.lst xs))
 (ho:s.heap.get? p=some { cls := .type "list",data := .seq its.toArray n }) (hf:f { cls := .type "list",data := .seq its.toArray n }={ cls := .type "list",data := .seq its'.toArray n' }) (r:Vals ys its') (hz:ys.length<=sizeLine) (t:Nat) :
 Inv X pins σ (upd H p (.lst ys)) { s with heap:=s.heap.update p f,toks:=t }:=by
 have e:(s.heap.update p f).get? p=some { cls := .type "list",data := .seq its'.toArray n' }:=by
  rw [Heap.get?_update_self f ho (by rw [hf]<;>rfl),hf]
 refine I.write (x:=p) (e:=p) (by rw [h];trivial) (.inl rfl) (λb u hb q=>(Heap.get?_update_other _ _ (Ne.symm hb)).trans q) ⟨_,e⟩ ?_;exact⟨hz,its',n',r,e⟩
def rSetL:V->V->V->Hp->(Hp->Prop)->Prop:=λo i v H Q=>∃p xs k j,o = .ref p/\i = .int k/\H p=some (.lst xs)/\ixN xs.length k=some j/\Q (upd H p (.lst (xs.set j v)))
theorem JN:ZjZ X rSetL:=by
 intro pins s σ H o i v ov iv u Q I ro ri rv h;obtain⟨p,xs,k,j,rfl,rfl,hp,hj,q⟩:=h;cases ro;obtain⟨t,rfl⟩:=ri;obtain⟨its,n,r,ho,hz⟩:=I.lst hp;obtain⟨h1,h2,h3,h4⟩:=Zc7 hj;have hl:=r.length;have hn:=V2
 have I':Inv X pins σ (upd H p (.lst (xs.set j v))) { s with heap:=s.heap.update p (Obj.mapSeq (·.setIfInBounds j u)) }:=
  I.lstUpd hp ho (Zcu its n j u) (r.set rv j) (by rw [List.length_set];exact hz) s.toks
 by_cases h0:0<=k
 · have hk : k.toNat = j := by
    rw [seqIndex_of h0 h4]at h1;exact Option.some.inj h1
   exact PySem.W.ki_setAt ho h0 (by omega) (by rw [List.size_toArray,<-hl];exact h4) (by rw [hk];exact⟨_,I',q⟩)
 · have hk : (k + (its.toArray.size : Int)).toNat = j := by
    rw [seqIndex_neg (by omega) h3]at h1;rw [List.size_toArray,<-hl];exact Option.some.inj h1
   exact PySem.W.ki_setBack ho (by omega) (by rw [List.size_toArray,<-hl];exact h3) (by omega) (by rw [hk];exact⟨_,I',q⟩)
def Ys:V->Bool
 | .non=>true
 | .bl _=>true
 | .int _=>true
 | .str _=>true
 |_=>false
def eqV:V->V->Bool
 | .non,.non=>true
 | .bl a,.bl b=>a == b
 | .bl a,.int b=>(if a then 1 else 0) == b
 | .int a,.bl b=>a == (if b then 1 else 0)
 | .int a,.int b=>a == b
 | .str a,.str b=>a == b
 |_,_=>false
theorem ZhX{A:Around}{s:Shared}{y x:V}{u v:Value}(ry:RelV y u)(rx:RelV x v)(fy:Ys y=true)(fx:Ys x=true):SeqAt.EqAt A s u v (eqV y x):=by
 cases y with
 |non=>
  cases ry;cases x with
  |non=>cases rx;exact SeqAt.EqAt.same _
  |bl b=>cases rx;exact SeqAt.EqAt.none_bool b
  |int b=>obtain⟨t,rfl⟩:=rx;exact SeqAt.EqAt.none_int b t
  |str b=>obtain⟨t,rfl⟩:=rx;exact SeqAt.EqAt.none_str b t
  |_=>exact absurd (show false=true from fx) Bool.false_ne_true
 |bl a=>
  cases ry;cases x with
  |non=>cases rx;exact SeqAt.EqAt.bool_none a
  |bl b=>cases rx;exact SeqAt.EqAt.bool_bool a b
  |int b=>obtain⟨t,rfl⟩:=rx;exact SeqAt.EqAt.bool_int a b t
  |str b=>obtain⟨t,rfl⟩:=rx;exact SeqAt.EqAt.bool_str a b t
  |_=>exact absurd (show false=true from fx) Bool.false_ne_true
 |int a=>
  obtain⟨t',rfl⟩:=ry;cases x with
  |non=>cases rx;exact SeqAt.EqAt.int_none a t'
  |bl b=>cases rx;exact SeqAt.EqAt.int_bool a t' b
  |int b=>obtain⟨t,rfl⟩:=rx;exact SeqAt.EqAt.int_int a t' b t
  |str b=>obtain⟨t,rfl⟩:=rx;exact SeqAt.EqAt.int_str a t' b t
  |_=>exact absurd (show false=true from fx) Bool.false_ne_true
 |str a=>
  obtain⟨t',rfl⟩:=ry;cases x with
  |non=>cases rx;exact SeqAt.EqAt.str_none a t'
  |bl b=>cases rx;exact SeqAt.EqAt.str_bool a t' b
  |int b=>obtain⟨t,rfl⟩:=rx;exact SeqAt.EqAt.str_int a t' b t
  |str b=>obtain⟨t,rfl⟩:=rx;exact SeqAt.EqAt.str_str a t' b t
  |_=>exact absurd (show false=true from fx) Bool.false_ne_true
 |_=>exact absurd (show false=true from fy) Bool.false_ne_true
def eqU(x:V)(u:Value):Bool:=match u with
 | .none=>eqV .non x
 | .bool b=>eqV (.bl b) x
 | .int i _=>eqV (.int i) x
 | .str z _=>eqV (.str z) x
 |_=>false
theorem Qo{x y:V}{u:Value}(r:RelV y u)(f:Ys y=true):eqU x u=eqV y x:=by
 cases y with
 |non=>cases r;rfl
 |bl b=>cases r;rfl
 |int i=>obtain⟨t,rfl⟩:=r;rfl
 |str z=>obtain⟨t,rfl⟩:=r;rfl
 |_=>exact absurd (show false=true from f) Bool.false_ne_true
theorem JO{x:V}:∀{xs:List V}{us:List Value},Vals xs us->xs.all Ys=true->us.any (eqU x)=xs.any λy=>eqV y x
 |_,_,.nil,_=>rfl
 |y::xs,u::us,.cons r t,f=>by
  rw [List.all_cons,Bool.and_eq_true]at f;rw [List.any_cons,List.any_cons,Qo r f.1,JO t f.2]
theorem Uz{A:Around}{s:Shared}{x:V}{v:Value}(rx:RelV x v)(fx:Ys x=true):∀{xs:List V}{us:List Value},Vals xs us->xs.all Ys=true->∀u∈us,SeqAt.EqAt A s u v (eqU x u)
 |_,_,.nil,_=>λu hu=>by cases hu
 |y::xs,u::us,.cons r t,f=>λu' hu=>by
  rw [List.all_cons,Bool.and_eq_true]at f;rcases List.mem_cons.mp hu with rfl|hu
  · rw [Qo r f.1];exact ZhX r rx f.1 fx
  · exact Uz rx fx t f.2 u' hu
def inV(x:V)(xs:List V):Bool:=xs.any λy=>eqV y x
def rIn(K:PySem.W.Frag)(neg:Bool):R2:=λx y H Q=>∃p xs,y = .ref p/\(SqL K H p xs\/SqT K H p xs)/\Ys x=true/\xs.all Ys=true/\Q (.bl (if neg then !inV x xs else inV x xs)) H
theorem Zbi:OpR X (compareOp .NotIn) (rIn X.K true):=by
 intro pins s σ H x y v u Q I rx ry h;obtain⟨p,xs,rfl,hq,fx,fs,q⟩:=h;cases ry;rcases hq with hq|hq
 · obtain⟨its,r,pl,hz⟩:=I.list hq
   refine SeqAt.notIn_listAt (eqU x) pl.isList (λw hw=>Uz rx fx r fs w (by simpa using hw)) ⟨.bl _,H,I,rfl,?_⟩;rw [show its.toArray.any (eqU x)=its.any (eqU x) by simp,JO r fs];exact q
 · obtain⟨its,r,pl,hz⟩:=I.tuple hq
   refine SeqAt.notIn_tupleAt (eqU x) pl (λw hw=>Uz rx fx r fs w (by simpa using hw)) ⟨.bl _,H,I,rfl,?_⟩;rw [show its.toArray.any (eqU x)=its.any (eqU x) by simp,JO r fs];exact q
theorem Zbj:Yq X (.builtin "len") (λxs H Q=>∃p ys,xs=[.ref p]/\(SqL X.K H p ys\/SqT X.K H p ys)/\Q (.int ys.length) H):=by
 intro pins s σ H xs us Q I r h;obtain⟨p,ys,rfl,hq,q⟩:=h;obtain⟨u,rfl,rx⟩:=Y6 r;cases rx;have hn:=V2;rcases hq with hq|hq
 · obtain⟨its,r',pl,hz⟩:=I.list hq
   have hlen:=r'.length;exact Calls.call_len_list pl.isList (by simp only [List.size_toArray]<;>omega) ⟨.int ys.length,H,I.tok _,⟨s.toks+1,by rw [List.size_toArray,hlen]⟩,q⟩
 · obtain⟨its,r',pl,hz⟩:=I.tuple hq
   have hlen:=r'.length;exact len_tuple pl (by simp only [List.size_toArray]<;>omega) ⟨.int ys.length,H,I.tok _,⟨s.toks+1,by rw [List.size_toArray,hlen]⟩,q⟩
theorem Zbk:Yq X (.builtin "len") (λxs H Q=>∃z,xs=[.str z]/\z.length<=sizeLine/\Q (.int z.length) H):=by
 intro pins s σ H xs us Q I r h;obtain⟨z,rfl,hz,q⟩:=h;obtain⟨u,rfl,t,rfl⟩:=Y6 r;have hn:=V2;exact len_str (by omega) ⟨.int z.length,H,I.tok _,⟨_,rfl⟩,q⟩
theorem Zbl:Yq X (.type "list") (λxs H Q=>∃p ys,xs=[.ref p]/\(SqL X.K H p ys\/SqT X.K H p ys)/\∀l,H l=none->Q (.ref l) (upd H l (.lst ys))):=by
 intro pins s σ H xs us Q I r h;obtain⟨p,ys,rfl,hq,q⟩:=h;obtain⟨u,rfl,rx⟩:=Y6 r;cases rx
 have fin:∀(its:List Value),Vals ys its->ys.length<=sizeLine->∀(h':Heap)(c':Nat),(∀b o',s.heap.get? b=some o'->h'.get? b=some o') ->
  h'.get? s.heap.objs.size=some { cls := .type "list",dict:=none,data := .seq its.toArray c',slots := #[] }->EP X pins σ Q (.ref s.heap.objs.size) { s with heap:=h' }:=λits r' hz h' c' kp e=>
  ⟨.ref s.heap.objs.size,_,I.laid (t':=s.toks) kp (Nat.le_refl _) (show ObjOk X.prog X.w _ h' _ (.lst ys)from⟨hz,its,c',r',e⟩),rfl,q _ (I.hok.fresh (Nat.le_refl _))⟩
 rcases hq with hq|hq
 · obtain⟨its,r',pl,hz⟩:=I.list hq
   have hlen:=r'.length;obtain⟨o,ho,hc,n,hd⟩:=pl.isList;exact call_list_seq p (.inl rfl) ho hc hd (λh' c' kp e=>fin its r' hz h' c' kp e) (by simp only [List.size_toArray]<;>omega)
 · obtain⟨its,r',pl,hz⟩:=I.tuple hq
   have hlen:=r'.length;obtain⟨o,ho,hc,n,hd⟩:=pl;exact call_list_seq p (.inr rfl) ho hc hd (λh' c' kp e=>fin its r' hz h' c' kp e) (by simp only [List.size_toArray]<;>omega)
theorem ZaR:Yq X (.type "tuple") (λxs H Q=>∃p ys,xs=[.ref p]/\((SqL X.K H p ys/\∀l,H l=none->Q (.ref l) (upd H l (.tup ys)))\/(SqT X.K H p ys/\Q (.ref p) H))):=by
 intro pins s σ H xs us Q I r h;obtain⟨p,ys,rfl,h⟩:=h;obtain⟨u,rfl,rx⟩:=Y6 r;cases rx;rcases h with⟨hq,q⟩|⟨hq,q⟩
 · obtain⟨its,r',pl,hz⟩:=I.list hq
   have hlen:=r'.length;refine call_tuple_list pl.isList (λh' kp => ?_) (by simp only [List.size_toArray]<;>omega);have I1:Inv X pins σ H { s with heap:=h' }:=I.kept (t':=s.toks) kp
   have I2:Inv X pins σ (upd H h'.objs.size (.tup ys)) { s with heap:=h'.push { cls := .type "tuple",data := .seq its.toArray } }:=
    I1.laid (t':=s.toks) (λb o e=>Heap.get?_push_of_some _ e) (Nat.le_refl _) (show ObjOk X.prog X.w _ _ _ (.tup ys)from⟨hz,its,r',TupN.new _ _⟩)
   exact⟨.ref h'.objs.size,_,I2,rfl,q _ (I1.hok.fresh (Nat.le_refl _))⟩
 · obtain⟨its,r',pl,hz⟩:=I.tuple hq
   exact call_tuple_same pl ⟨.ref p,H,I,rfl,q⟩
def tyV(K:PySem.W.Frag)(T:String)(x:V)(H:Hp):Prop:=match x with
 | .str _=>T = "str"
 | .int _=>T = "int"
 | .ref p=>(T = "list" /\ ∃xs,SqL K H p xs)\/(T = "tuple" /\ ∃o,K.lookup p=some o/\o.cls = .type "tuple" /\ o.dict=none) \/
  (T = "dict" /\ ((∃kvs,H p=some (.dK kvs))\/∃kvs,H p=some (.dT kvs)))\/(T = "set" /\ ∃S n,H p=some (.set S n))\/(T = "tuple" /\ ∃xs,H p=some (.tup xs))
 |_=>False
theorem Zfl{pins:List (Addr×Obj)}{σ:St}{H:Hp}{s:Shared}{T:String}{x:V}{v:Value}(I:Inv X pins σ H s)(r:RelV x v)(ty:tyV X.K T x H) :
 s.TypeIs v T/\∀a,v = .ref a->∃ob,s.heap.get? a=some ob/\ob.dict=none:=by
 cases x with
 |str z=>
  obtain⟨t,rfl⟩:=r;cases(show T = "str" from ty);exact⟨typeIs_str s z t,λ_ e=>nomatch e⟩
 |int i=>
  obtain⟨t,rfl⟩:=r;cases(show T = "int" from ty);exact⟨typeIs_int s i t,λ_ e=>nomatch e⟩
 |ref p=>
  cases r;rcases ty with⟨rfl,xs,hq⟩|⟨rfl,o,hk,hc,hd⟩|⟨rfl,hk⟩|⟨rfl,S,n,hk⟩|⟨rfl,xs,hk⟩
  · obtain⟨its,_,pl,_⟩:=I.list hq
    refine⟨pl.isList.typeIs,λa e => ?_⟩;cases e;obtain⟨o,n,e,c,hd,_⟩:=pl;exact⟨o,e,hd⟩
  · refine⟨⟨o,I.kIn p o hk,hc⟩,λa e => ?_⟩
    cases e;exact⟨o,I.kIn _ o hk,hd⟩
  · have z : ∃ o, s.heap.get? p = some o /\ o.ExactDict := by
     rcases hk with⟨kvs,hk⟩|⟨kvs,hk⟩
     · obtain⟨_,_,_,_,o,_,_,e,ex,_⟩:=I.hok p _ hk
       exact⟨o,e,ex⟩
     · obtain⟨_,_,_,_,o,_,_,e,ex,_⟩:=I.hok p _ hk
       exact⟨o,e,ex⟩
    obtain⟨o,e,ex⟩:=z;refine⟨⟨o,e,ex.1⟩,λa e2 => ?_⟩;cases e2;exact⟨o,e,ex.2.1⟩
  · obtain⟨o,_,_,_,e,ex,_⟩:=I.hok p _ hk
    refine⟨⟨o,e,ex.1⟩,λa e2 => ?_⟩;cases e2;exact⟨o,e,ex.2.1⟩
  · obtain⟨_,its,_,o,e,c,_,dn⟩:=(show ObjOk X.prog X.w H s.heap p (.tup xs)from I.hok p _ hk)
    refine⟨⟨o,e,c⟩,λa e2 => ?_⟩;cases e2;exact⟨o,e,dn⟩
 |_=>exact False.elim ty
def JP(K:PySem.W.Frag)(T:String)(r:V->List V->Hp->VK->Prop)(to:TE):TE:=λσ H Q=>to σ H λx H1=>tyV K T x H1/\r x [] H1 Q
def tBM(K:PySem.W.Frag)(T:String)(r:V->List V->Hp->VK->Prop)(to:TE)(t:TA):TE:=λσ H Q=>to σ H λx H1=>tyV K T x H1/\t σ H1 λxs H2=>r x xs H2 Q
variable{o e:Expr}{es:List Expr}{to:TE}{t:TA}{name:Str}{apos cpos:Pos}{T id:String}{r:V->List V->Hp->VK->Prop}
theorem ZhY (pa:PlainAttrs T) (slot:Slot T name id) (hty:typeOf (.builtin id)=pure (.type "method_descriptor")) (hm:MtR X id r) (ho:PE X o to)
 (hbase:attributeBase o name X.env (eval o X.env)=eval o X.env:=by rfl) (hline:(apos.endLine == cpos.line)=true:=by rfl):PE X (.Call (.Attribute o name apos) [] [] cpos) (JP X.K T r to):=by
 intro pins s σ H Q I h;refine wpAny_Call_method0_late hbase hline (thn (ho pins s σ H _ I h) λv s1 ⟨x,H1,I1,r1,ty,q1⟩ => ?_);obtain⟨h1,h2⟩:=Zfl I1 r1 ty;exact⟨T,id,pa,slot,hty,h1,h2,Calls.callWith_builtin rfl (PySem.evalArgs_none (hm pins s1 σ H1 x [] v [] Q I1 r1 .nil q1))⟩
theorem Zi1 (pa:PlainAttrs T) (slot:Slot T name id) (hty:typeOf (.builtin id)=pure (.type "method_descriptor")) (hm:MtR X id r) (ho:PE X o to) (ha:PA X (e::es) t)
 (hbase:attributeBase o name X.env (eval o X.env)=eval o X.env:=by rfl)
 (hfew:((backTo cpos (starEach (e::es) X.env)).all (λx => !x.1)&&(backToKw cpos (keywordEach [] X.env)).all (λx=>x.1.isSome)
   && decide ((e::es).length+([]:List Keyword).length+(if([]:List Keyword).isEmpty then 0 else 1)<30))=true:=by rfl)
 (hline:(apos.endLine == cpos.line)=true:=by rfl) (hs:starEach (e::es) X.env=(false,eval e X.env)::starEach es X.env:=by rfl) (hplain:(backTo cpos (starEach es X.env)).any (·.1)=false:=by rfl) :
 PE X (.Call (.Attribute o name apos) (e::es) [] cpos) (tBM X.K T r to t):=by
 intro pins s σ H Q I h;refine wpAny_Call_method_late hbase hfew hline rfl (thn (ho pins s σ H _ I h) λv s1 ⟨x,H1,I1,r1,ty,q1⟩ => ?_);obtain⟨h1,h2⟩:=Zfl I1 r1 ty;refine⟨T,id,pa,slot,hty,h1,h2,?_⟩;have hA:=ha cpos pins s1 σ H1 _ I1 q1;rw [hs]at hA ⊢;refine Calls.callWith_builtin (by show(false||(backTo cpos (starEach es X.env)).any (·.1))=false;rw [hplain]<;>rfl) (Calls.evalArgs_plain ?_)
 exact thn hA λus s2 ⟨vs,H2,I2,r2,q2⟩=>hm pins s2 σ H2 x vs v us Q I2 r1 r2 q2
end
end L2
namespace L2
open PySem PySem.Spec PyProof.Rows
def MtM(X:Cx)(id:String)(r:V->List V->Hp->VK->Prop):Prop:=
 ∀(pins:List (Addr×Obj))(s:Shared)(σ:St)(H:Hp)(x:V)(xs:List V)(v:Value)(us:List Value)(Q:VK),Inv X pins σ H s->RelV x v->Vals xs us->r x xs H Q ->
  wpAny (model X.prog X.w) X.A (call (.builtin id) (v::us)) (EP X pins σ Q) X.xe s
theorem Vals.one:∀{x:V}{us:List Value},Vals [x] us->∃u,us=[u]/\RelV x u
 |_,_,.cons r .nil=>⟨_,rfl,r⟩
theorem Vals.zero:∀{us:List Value},Vals [] us->us=[]
 |_,.nil=>rfl
theorem Vals.dropLast{xs:List V}{us:List Value}(h:Vals xs us):Vals xs.dropLast us.dropLast:=by
 induction h with
 |nil=>exact .nil
 |cons r t ih=>
  cases t with
  |nil=>exact .nil
  |cons q t'=>exact .cons r ih
theorem Vals.rep{xs:List V}{us:List Value}(h:Vals xs us):∀k:Nat,Vals (List.replicate k xs).flatten (List.replicate k us).flatten
 |0 => .nil
 |k+1=>by
  rw [List.replicate_succ,List.replicate_succ,List.flatten_cons,List.flatten_cons];exact Vals.append h (Vals.rep h k)
theorem Zcv{α:Type}(l:List α):l.eraseIdx (l.length-1)=l.dropLast:=by
 induction l with
 |nil=>rfl
 |cons a r ih=>
  cases r with
  |nil=>rfl
  |cons b r=>
   have e:(a::b::r).length-1=((b::r).length-1)+1:=by
    have h1:(a::b::r).length=r.length+2:=rfl;have h2:(b::r).length=r.length+1:=rfl;omega
   rw [e,List.eraseIdx_cons_succ,ih]
   all_goals rfl
theorem Za1(its:List Value):∀(k:Nat)(acc:List Value),
 List.foldl (λx1 x2=>x1++x2) acc.toArray (List.replicate k its.toArray)=(acc++(List.replicate k its).flatten).toArray
 |0,acc=>by simp
 |k+1,acc=>by
  have e:acc.toArray++its.toArray=(acc++its).toArray:=by simp
  have e2:(acc++its)++(List.replicate k its).flatten=acc++(List.replicate (k+1) its).flatten:=by
   rw [List.replicate_succ,List.flatten_cons,List.append_assoc]
  rw [<-e2,<-Za1 its k (acc++its),<-e,List.replicate_succ,List.foldl_cons]
section
variable{X:Cx}{pins:List (Addr×Obj)}{σ:St}{H:Hp}{s:Shared}{l b:Addr}{xs ys zs:List V}
theorem Inv.lset {its its':List Value} {n:Nat} {f:Array Value->Array Value} {t':Nat} (I:Inv X pins σ H s) (hH:H l=some (.lst xs))
 (e:s.heap.get? l=some { cls := .type "list",data := .seq its.toArray n }) (hf:f its.toArray=its'.toArray) (hv:Vals ys its') (hz:ys.length<=sizeLine) :
 Inv X pins σ (upd H l (.lst ys)) { s with heap:=s.heap.update l (Obj.mapSeq f),toks:=t' }:=by
 have q:=PySem.IsL.update e f;rw [hf]at q;refine I.write (x:=l) (e:=l) (by rw [hH];exact trivial) (.inl rfl) (λb' u hb hu=>(Heap.get?_update_other s.heap (Obj.mapSeq f) (Ne.symm hb)).trans hu) ⟨_,q⟩ ?_;exact⟨hz,its',_,hv,q⟩
theorem Inv.lnew{its:List Value}{t':Nat}(I:Inv X pins σ H s)(hv:Vals ys its)(hz:ys.length<=sizeLine) :
 Inv X pins σ (upd H s.heap.objs.size (.lst ys)) { s with heap:=s.heap.push { cls := .type "list",data := .seq its.toArray },toks:=t' }:=
 I.laid (λ_ _ q=>Heap.get?_push_of_some _ q) (Nat.le_refl _) ⟨hz,its,0,hv,Heap.get?_push_size _ rfl⟩
theorem Inv.fresh(I:Inv X pins σ H s):H s.heap.objs.size=none:=I.hok.fresh (Nat.le_refl _)
theorem Inv.lstM(I:Inv X pins σ H s)(hH:H l=some (.lst xs)):xs.length<=sizeLine/\∃(its:List Value) (n:Nat),Vals xs its/\xs.length=its.length/\s.heap.get? l=some { cls := .type "list",data := .seq its.toArray n }:=by
 obtain⟨z,its,n,r,e⟩:=I.hok l _ hH;exact⟨z,its,n,r,r.length,e⟩
theorem JQ{n:Nat}(h:n<=sizeLine):Builtin.List.listTooLong n=false:=by
 unfold Builtin.List.listTooLong;exact decide_eq_false (by omega)
end
section
variable{X:Cx}
def rAppend:V->List V->Hp->VK->Prop:=λx vs H Q=>∃l xs y,x = .ref l/\vs=[y]/\H l=some (.lst xs)/\xs.length<sizeLine/\Q .non (upd H l (.lst (xs++[y])))
theorem X8:MtM X "list.append" rAppend:=by
 intro pins s σ H x vs v us Q I rx rv h;obtain⟨l,xs,y,rfl,rfl,hH,hz,q⟩:=h;cases rx;obtain⟨u,rfl,ru⟩:=rv.one;obtain⟨z,its,n,r,hl,e⟩:=I.lstM hH;refine call_meets F.slot_list_append ⟨_,e,rfl⟩ F.entry_list_append (F.args_list_append_2 _ _) (PySem.list_append l its.toArray n u (by rw [List.size_toArray];omega)) ⟨e,?_⟩;refine⟨.non,_,I.lset (its':=its++[u]) hH e (by simp) (r.append (.cons ru .nil)) ?_,rfl,q⟩
 rw [List.length_append,List.length_singleton];omega
def rExtend:V->List V->Hp->VK->Prop:=λx vs H Q=>∃l b xs zs,x = .ref l/\vs=[.ref b]/\H l=some (.lst xs)/\H b=some (.lst zs)/\xs.length+zs.length<=sizeLine/\Q .non (upd H l (.lst (xs++zs)))
theorem ZdS:MtM X "list.extend" rExtend:=by
 intro pins s σ H x vs v us Q I rx rv h;obtain⟨l,b,xs,zs,rfl,rfl,hH,hB,hz,q⟩:=h;cases rx;obtain⟨u,rfl,ru⟩:=rv.one;cases ru;obtain⟨z,its,n,r,hl,e⟩:=I.lstM hH;obtain⟨z2,its2,n2,r2,hl2,e2⟩:=I.lstM hB;have hsz:its.toArray.size+its2.toArray.size<=sizeLine:=by rw [List.size_toArray,List.size_toArray];omega
 have hlong:¬(!its.toArray.isEmpty&&Builtin.List.listTooLong (its.toArray.size+its2.toArray.size))=true:=by
  rw [JQ hsz,Bool.and_false];exact Bool.false_ne_true
 refine call_meets F.slot_list_extend ⟨_,e,rfl⟩ F.entry_list_extend (F.args_list_extend_2 _ _)
  (AutoSeq1.list_extend_list_list_0 l its.toArray n b its2.toArray n2 hlong (by rw [List.size_toArray];omega) (by omega)) ⟨e,e2,?_⟩
 refine⟨.non,_,I.lset (its':=its++its2) hH e (by simp) (r.append r2) ?_,rfl,q⟩;rw [List.length_append];omega
def rPop:V->List V->Hp->VK->Prop:=λx vs H Q=>∃l xs y,x = .ref l/\vs=[]/\H l=some (.lst xs)/\xs[xs.length-1]? = some y/\Q y (upd H l (.lst xs.dropLast))
theorem ZhZ:MtM X "list.pop" rPop:=by
 intro pins s σ H x vs v us Q I rx rv h;obtain⟨l,xs,y,rfl,rfl,hH,hy,q⟩:=h;cases rx;have hus:=rv.zero;subst hus;obtain⟨z,its,n,r,hl,e⟩:=I.lstM hH;obtain⟨u,hu,ru⟩:=r.get hy
 have hy':its.toArray[its.toArray.size-1]? = some u:=by
  show its.toArray[its.length-1]? = some u;rw [<-Array.getElem?_toList,<-hl];exact hu
 refine call_meets F.slot_list_pop ⟨_,e,rfl⟩ F.entry_list_pop (F.args_list_pop_1 _) (MeetsSeq.list_pop_last l its.toArray n u hy' (by rw [List.size_toArray];omega)) ⟨e,?_⟩;refine⟨y,_,I.lset (its':=its.dropLast) hH e ?_ r.dropLast ?_,ru,q⟩
 · show its.toArray.eraseIdxIfInBounds (its.toArray.size-1)=its.dropLast.toArray
   rw [List.size_toArray,List.eraseIdxIfInBounds_toArray,Zcv]
 · rw [List.length_dropLast]
   omega
def Zkr:R2:=λx y H Q=>∃l b xs zs,x = .ref l/\y = .ref b/\H l=some (.lst xs)/\H b=some (.lst zs)/\xs.length+zs.length<=sizeLine/\∀p,H p=none->Q (.ref p) (upd H p (.lst (xs++zs)))
theorem Zgf{α:Type}(xs:List α)(k:Nat):(List.replicate k xs).flatten.length=k*xs.length:=by
 induction k with
 |zero=>simp
 |succ k ih=>rw [List.replicate_succ,List.flatten_cons,List.length_append,ih,Nat.succ_mul,Nat.add_comm]
end
section
variable{prog:Program}{w:World}{A:Around}{E:Value->Shared->Prop}{s:Shared}
set_option maxRecDepth 100000 in
end
section
variable{X:Cx}
end
end L2
namespace Att
open PySem PySem.W PySem.Calls PyProof.Rows
theorem Zau{P:Params}{h:Heap}:∀(ns:List Int)(vs:List Value),WellAll P h vs (ns.map WData.int)->IntsAre vs ns:=by
 intro ns
 induction ns with
 |nil=>
  intro vs w;rw [List.map_nil]at w;cases w;exact .nil
 |cons n ns ih=>
  intro vs w;rw [List.map_cons]at w;cases w with
  |cons a b=>
   cases a;exact .cons _ _ (ih _ b)
theorem ZdT {l:OpenLaw} {n:Nat} (hn:l.most=some n) {P:Params} {h:Heap} {args:List WData} {vals:List Value}
 (hpre:l.row.toRowW.claim.pre args=true) (hwl:WellAll P h vals args) :
 ∃a vs ns,vals=[Value.ref a]/\args=[WData.list (ns.map WData.int)]/\h.get? a=some { cls := .type "list",data := .seq vs.toArray }/\IntsAre vs ns/\ns.length<=n:=by
 have hsh:WShape.hasAll [] args [.list .int]=true:=(pre_splitW hpre).1;have hc:l.pre.holds [] { args:=args }=true:=(pre_splitW hpre).2;obtain⟨d,r,rfl,h1,h2⟩:=hasAllW_cons hsh;obtain rfl:=hasAllW_nil h2;obtain⟨xs,rfl,h3⟩:=hasW_list h1;obtain⟨ns,rfl⟩:=items_int h3
 have hlen:ns.length<=n:=by
  unfold OpenLaw.pre at hc
  have h4:(WTm.not (.lt (.lit (.int (n:Int))) (.len (.arg 0)))).holds [] { args:=[.list (ns.map .int)] }=true:=by
   have h4:=(holds_andW hc).1;rw [hn]at h4;exact h4
  have h5:=condW_of h4 (w_not (w_lt w_lit (w_len_list (w_arg rfl))));rw [List.length_map]at h5;refine Nat.le_of_not_lt λq => ?_
  have q':(n:Int)<((ns.length:Nat):Int):=by omega
  first
   |(rw [decide_eq_true q']at h5;exact absurd h5 (by decide))
   |(simp at h5;omega)
 cases hwl with
 |cons w1 w2=>
  cases w2;cases w1 with
  |list ho hall=>exact⟨_,_,ns,rfl,rfl,ho,Zau ns _ hall,hlen⟩
theorem ZdU(l:OpenLaw)(args:List WData):l.row.toRowW.claim.post args (.bool true) args=true:=
 postW_of (r:=l.row.toRowW) (X:=(true == true))
  (show WShape.has [] (.bool true) .bool=true by first|rfl|decide|simp [WShape.has,WShape.arms,WShape.armsAll])
  (show(WTm.eq .res (.lit (.bool true))).value [] { args:=args,res:=some (.bool true),after:=args }=some (.bool (true == true))from w_eq_bool (w_res rfl) w_lit) rfl
theorem attach_call {l:OpenLaw} {n:Nat} {q:Program} {loose:List Str} {XP:(Str->Option Value)->Heap->Prop} {YP:World->Heap->Prop} {d:DefRec}
 (hn:l.most=some n) (hdf:d.params.defaults=[])
 (call:∀(w:World)(s₀ s₁:Shared)(mg mb:Str->Option Value)(fa:Addr)(o:Obj)(pm cd doc:Value)(a:Addr)(vs:List Value)(ns:List Int),
   Ground q loose [] XP w s₀ mg mb s₁.heap->YP w s₁.heap ->
   s₁.heap.get? fa=some o->o.data = .func (docDef d.name d.params d.body d.scope pm cd doc)->s₁.heap.CodeRec cd d.name->mg d.name=some (.ref fa) ->
   s₁.heap.get? a=some { cls := .type "list",data := .seq vs.toArray }->IntsAre vs ns->ns.length<=n->s₁.gens = #[] ->
   codeAny (model l.prog w) callerA (.call (.ref fa) ⟨[.ref a],[]⟩) (λr s'=>r = .ok (.ret (.bool true))/\OldK s₁.heap s'.heap/\s'.os=s₁.os/\AllBare s'.gens) s₁) :
 WalkO q loose XP YP l.row.toRowW d [] (λf vs=>PySem.call f vs):=by
 intro w s₀ s₁ mg mb G Y fa o pm cd doc dV kV ho hd hcd hD hmg hg args vals as hpre hlay hrd hwl hlo;obtain rfl:dV = .none:=Dflts.none hD hdf;obtain rfl:kV = .none:=Dflts.noKw hD;obtain⟨a,vs,ns,rfl,rfl,hobj,hints,hlen⟩:=ZdT hn hpre hwl;refine enter_call (codeAny_mono (call w s₀ s₁ mg mb fa o pm cd doc a vs ns G Y ho (fd_plain hd) hcd hmg hobj hints hlen hg) λr s' hq => ?_);obtain⟨rfl,h2,h3,h4⟩:=hq
 exact⟨.inl ⟨.bool true,.bool true,[],rfl,λ_=>rfl,.bool true,ZdU l _,λ_=>⟨List.Pairwise.nil,λ_ hm=>(nomatch hm)⟩⟩,h2,h3,h4⟩
section
variable{prog:Program}{w:World}{A:Around}{E:Value->Shared->Prop}{s:Shared}{K:Frag}
end
end Att
namespace L2
open PySem PySem.Spec PyProof.Rows
theorem Za2:∀{vs:List Value}{ns:List Int},IntsAre vs ns->Vals (ns.map V.int) vs
 |_,_,.nil => .nil
 |_,_,.cons n t h => .cons ⟨t,rfl⟩ (Za2 h)
end L2
namespace L2
open PySem PySem.Spec PyProof.Rows
end L2
namespace L2
open PySem PySem.Spec PyProof.Rows
def Qp(s:Stmt)(j:Nat):Stmt:=match s with
 | .ClassDef _ _ _ body _ _ _ _ _ _ _=>body.getD j (.Pass ⟨0,0,0,0⟩)
 |_ => .Pass ⟨0,0,0,0⟩
def defArgs(s:Stmt):Arguments:=match s with
 | .FunctionDef _ a _ _ _ _ _ _ _ _=>a
 |_=>{ posonlyargs:=[],args:=[],vararg:=none,kwonlyargs:=[],kw_defaults:=[],kwarg:=none,defaults:=[] }
def defBody(s:Stmt):List Stmt:=match s with
 | .FunctionDef _ _ b _ _ _ _ _ _ _=>b
 |_=>[]
def defScope(s:Stmt):Scope:=match s with
 | .FunctionDef _ _ _ _ _ _ sc _ _ _=>sc
 |_=>{ kind := .function,names:=[],isGenerator:=false,isCoroutine:=false }
abbrev CX0:CXT:=λ_ _ _ _ _ _=>False
abbrev E0:XK:=λ_ _ _=>False
theorem Z9{X:Cx}:Uy CX0 X E0:=λ_ _ _ _ _ _ _ h=>h.elim
structure Fun(K:PySem.W.Frag)(x qual:Str)(st:Stmt)(f:Addr)(fd:FuncData):Prop where
 ex:∃(oc:Value) (od:Option Addr) (kV doc pm:Value) (an:Option Addr) (cdv ct:Value) (osl:Array (Option Value)),
  fd=fnOf x qual (defArgs st) (defBody st) (defScope st) .none kV doc pm an cdv ct/\K.lookup f=some ⟨oc,od,.func fd,osl⟩/\codeIn K cdv qual=true
 kp:keepIn K (.ref f)=true
section
variable{P:Program}{w:World}{K:PySem.W.Frag}{mg:Str->Option Value}{base:Heap}
theorem Fun.ok {x qual:Str} {st:Stmt} {f:Addr} {fd:FuncData} {N ps:List Str} {k:Nat} {sp:Sp} (F:Fun K x qual st f fd) (S:FnScope N ps (defScope st)) (len:∀vs H Q E,sp vs H Q E->vs.length=ps.length)
 (hbody:∀(cdv:Value)(A:Around)(outer:List Env)(s:Shared)(H:Hp)(vs:List V)(Q:VK)(E:XK),Room k (A.deeper (envOfC qual (defScope st) s.heap.objs.size f cdv))->sp vs H Q E ->
   ∃t,PSs (Yg CX0 P w K mg base N qual (defScope st) f cdv A outer s H E).nox (defBody st) t/\t { nx:=λ_ H'=>Q .non H',rt:=Q } (start N vs) H):FnOk P w K mg base CX0 (k+1) f fd ps sp:=by
 obtain⟨oc,od,kV,doc,pm,an,cdv,ct,osl,rfl,lk,hcd⟩:=F.ex;refine JK lk hcd S len λA outer s H vs Q E hr hsp => ?_
 obtain⟨t,h,q⟩:=hbody cdv A outer s H vs Q E hr hsp;exact⟨t,h.nox,q⟩
theorem Fun.binds {x qual:Str} {st:Stmt} {f:Addr} {fd:FuncData} {ps:List Str} (F:Fun K x qual st f fd)
 (h:∀(kV doc pm:Value)(an:Option Addr)(cdv ct:Value)(us:List Value),us.length=ps.length->bindArgs (fnOf x qual (defArgs st) (defBody st) (defScope st) .none kV doc pm an cdv ct) ⟨us,[]⟩=pure (ps.zip us)):Binds K fd ps []:=by
 obtain⟨oc,od,kV,doc,pm,an,cdv,ct,osl,rfl,lk,hcd⟩:=F.ex;exact .all (h kV doc pm an cdv ct)
theorem ZH {x qual:Str} {st:Stmt} {f:Addr} {oc:Value} {od an:Option Addr} {osl:Array (Option Value)} {kV doc pm cdv ct:Value} (l:K.lookup f=some ⟨oc,od,.func (fnOf x qual (defArgs st) (defBody st) (defScope st) .none kV doc pm an cdv ct),osl⟩)
 (c:codeIn K cdv qual=true) (k:keepIn K (.ref f)=true):Fun K x qual st f (fnOf x qual (defArgs st) (defBody st) (defScope st) .none kV doc pm an cdv ct):=⟨⟨oc,od,kV,doc,pm,an,cdv,ct,osl,rfl,l,c⟩,k⟩
end
section
variable{X:Cx}
theorem pv (i:Nat) {x:Str} {pos:Pos} (hN:X.N[i]? = some x:=by rfl) (hv:Vis X.env.scope x:=by first|exact Or.inl rfl|exact Or.inr (Or.inl rfl)|exact Or.inr (Or.inr rfl)) (hd:(x == ("__debug__" : Str))=false:=by decide)
 (hcd:(x == ("__classdict__" : Str))=false:=by decide):PE X (.Name x pos) (Zq i):=Zfh hN hv hd hcd
end
theorem Vr{A B:Prop}(h:B):if false=true then A else B:=by
 rw [if_neg Bool.false_ne_true];exact h
theorem Vs{A B:Prop}(h:A):if true=true then A else B:=by
 rw [if_pos rfl];exact h
def Same(H H':Hp):Prop:=∀b o,H b=some o->H' b=some o
theorem Same.refl(H:Hp):Same H H:=λ_ _ h=>h
theorem Same.trans{H H1 H2:Hp}(a:Same H H1)(b:Same H1 H2):Same H H2:=λc o h=>b c o (a c o h)
theorem Same.free{H H':Hp}(e:Same H H'){l:Addr}(h:H' l=Option.none):H l=Option.none:=by
 cases q:H l with
 |none=>rfl
 |some o=>
  rw [e l o q]at h;cases h
theorem Same.seq{K:PySem.W.Frag}{H H':Hp}{a:Addr}{xs:List V}(e:Same H H')(h:SqL K H a xs):SqL K H' a xs:=by
 rcases h with(h|⟨o,h⟩)|h
 · exact .inl (.inl (e _ _ h))
 · exact .inl (.inr ⟨o,e _ _ h⟩)
 · exact .inr h
end L2
namespace HT
open PySem PySem.W PySem.Calls PyProof.Rows
def de(P:Params)(x:Str)(t:Nat)(v:Value):DictEntry:=⟨PyData.keyHash P x,.str x t,v⟩
def dO(c:Value)(es:List DictEntry)(n:Nat):Obj:=⟨c,none,.dict es.toArray n,#[]⟩
def cO(vs:List Value):Obj:=⟨.type "code",none,.fields vs.toArray,#[]⟩
def fO(x q:Str)(st:Stmt)(dv kv doc pm:Value)(an:Option Addr)(cd ct:Value):Obj:=⟨.type "function",none,.func (fnOf x q (L2.defArgs st) (L2.defBody st) (L2.defScope st) dv kv doc pm an cd ct),#[]⟩
def c3(x q:Str)(t l a n r:Nat)(r2:Nat)(v w:Value)(r3 k k2:Nat):Obj:=cO [.str x t,.str q (t+1),.str "/claim/cut.py" (t+2),.int l 0,.int a 0,.int 0 0,.int 0 0,.int n 0,.ref r,.bool true,.int 181 0,.ref r2,.none,v,w,.ref r3,.int k 0,.int l 0,.str "/claim/cut.py" k2]
def f3(x q:Str)(st:Stmt)(m:Str)(t c:Nat):Obj:=fO x q st .none .none .none (.str m t) none (.ref c) .none
def met{α:Type}(_:α):Bool:=true
noncomputable def Zi2(P:Params):BT:=
 ((((((((((BT.nil.ins 0 (boot_o_0 P)).ins 1 (boot_o_1 P)).ins 2 (boot_o_2 P)).ins 3 (boot_o_3 P)).ins 4 (boot_o_4 P)).ins 5 (boot_o_5 P)).ins 6 (boot_o_6 P)).ins 7 (boot_o_7 P)).ins 8 (boot_o_8 P)).ins 9 (boot_o_9 P)).ins 10 (boot_o_10 P)
noncomputable abbrev S0(w:World)(os:OsState):Shared:=⟨boot_heap w.params,Array.mk [],boot_drawn,boot_toks,os⟩
noncomputable abbrev S0T(w:World)(os:OsState):SharedT:=⟨Zi2 w.params,11,(boot_heap w.params).life,Array.mk [],boot_drawn,boot_toks,os⟩
theorem Zks(w:World)(os:OsState):(S0T w os).abs=S0 w os:=rfl
noncomputable def JR(thr ok:Thread->Bool)(st:SharedT->Thread->Option (SharedT×Thread))(n:Nat):SharedT->Thread->Option SharedT:=
 @Nat.rec (λ_=>SharedT->Thread->Option SharedT) (λ_ _=>none)
  (λ_ ih s t => @Bool.rec (λ_=>Option SharedT) (@Bool.rec (λ_=>Option SharedT) none (@Option.rec (SharedT×Thread) (λ_=>Option SharedT) none (λr=>ih r.1 r.2) (st s t)) (ok t)) (some s) (thr t)) n
theorem ZbW{tb:String->Option Builtin}{p:Program}{w:World}{n₀:Nat}{ann:Option Value}:∀{n:Nat}{s s':SharedT}{t:Thread},JR through (stepOk n₀ ann) (stepT (denote tb) p w) n s t=some s'->topRun tb p w n₀ ann n s.abs t=some s'.abs
 |0,_,_,_,h=>by cases h
 |n+1,s,s',t,h=>by
  replace h : @Bool.rec (λ_=>Option SharedT) (@Bool.rec (λ_=>Option SharedT) none (@Option.rec (SharedT×Thread) (λ_=>Option SharedT) none (λr=>JR through (stepOk n₀ ann) (stepT (denote tb) p w) n r.1 r.2) (stepT (denote tb) p w s t)) (stepOk n₀ ann t)) (some s) (through t)=some s':=h;unfold topRun;cases ht:through t with
  |true=>rw [ht]at h;cases h;rfl
  |false=>
   rw [ht]at h;cases hk:stepOk n₀ ann t with
   |false=>rw [hk]at h;cases h
   |true=>
    rw [hk]at h;cases hs:stepT (denote tb) p w s t with
    |none=>rw [hs]at h;cases h
    |some r=>obtain⟨s₂,t₂⟩:=r;rw [hs]at h;rw [stepT_spec hs];exact ZbW h
theorem left_of {p q:Program} {loose:List Str} {Xt:Shared->Bool} {α:Type} {Yf:Shared->α} {Ya:World->α} {N:Nat}
 (e:opening p=plainProg p.main.scope.names) (hN:Nat.ble 600 N=true) (f:∀s,fenceModules? p s=some s)
 (run:∀w:World,(λos=>(JR through (stepOk 11 (some (.ref 6))) (stepT (denote treeTable) p w) N (S0T w os) (topStub p)).map λs=>((staticsOk (importedModules p.main.body) (boot_heap w.params) s.abs.heap&&namesBound p s.abs.heap&&gensDone s.abs&&laidKept (boot_heap w.params) s.abs.heap),
   openSeen q loose (importedModules p.main.body) Xt true s.abs,Yf s.abs))=λ_=>some (true,openGood q loose,Ya w)):LeftO p q loose Xt Yf Ya N:=λw=>by
 obtain⟨⟨h,gs,d,k,os⟩,e,e'⟩:=Option.map_eq_some_iff.mp (boot_open e hN f w);obtain⟨rfl,rfl,rfl,rfl⟩:h=boot_heap w.params/\gs=Array.mk []/\d=boot_drawn/\k=boot_toks:=by simpa using e'
 obtain⟨s1,r,l⟩:=Option.map_eq_some_iff.mp (congrFun (run w) os);obtain⟨l1,l2,l3⟩:_/\_/\_:=by simpa only [Prod.mk.injEq]using l
 have r:=ZbW r;rw [Zks]at r;have z1:((boot_heap w.params).isNs mainGlobals&&(Array.mk []:Array GenState).size == 0)=true:=by kernel_rfl
 have z2:(boot_heap w.params).objs.size=11:=rfl;have z3:(boot_heap w.params).nsMap mainGlobals "__annotations__" = some (.ref 6):=by kernel_rfl
 have t:topFrom treeTable p w N (S0 w os)=some s1.abs:=by
  unfold topFrom;dsimp only;rw [z1,z2,z3,r];show(match staticsOk (importedModules p.main.body) (boot_heap w.params) s1.abs.heap&&namesBound p s1.abs.heap&&gensDone s1.abs&&laidKept (boot_heap w.params) s1.abs.heap with|true=>_|false=>_)=_;rw [l1]
 unfold openEnds;rw [e];show(topFrom treeTable p w N _).map _=_;rw [t];exact congrArg some (Prod.ext l2 l3)
end HT
namespace L2
open PySem Builtin Builtin.Str
abbrev tx(cs:List Nat):Str:=⟨cs.toArray⟩
theorem tx_inj{a b:List Nat}:tx a=tx b ↔ a=b:=by
 constructor
 · intro h
   have h2:a.toArray=b.toArray:=congrArg Str.cps h;simpa using h2
 · rintro rfl;rfl
theorem UA(cs:List Nat):(tx cs).cps.toList=cs:=by simp [tx]
theorem Xl(cs:List Nat):(tx cs).length=cs.length:=by simp [tx,Str.length]
theorem Zh0(a b:List Nat):tx a++tx b=tx (a++b):=by
 show Str.mk (a.toArray++b.toArray)=Str.mk (a++b).toArray;simp
def UB(n d:Nat):Option Int->Nat
 |none=>d
 |some v=>if v<0 then(v+(n:Int)).toNat else min v.toNat n
def cutL{α:Type}(xs:List α)(lo hi:Option Int):List α:=(xs.drop (UB xs.length 0 lo)).take (UB xs.length xs.length hi-UB xs.length 0 lo)
end L2
namespace L2
open PySem Builtin Builtin.Str
def Qq(c:Nat):Bool:=decide (48<=c)&&decide (c<=57)
def JS(cs:List Nat):Nat:=cs.foldl (λacc c=>acc*10+(c-48)) 0
end L2
namespace L2
open PySem PySem.Spec PyProof.Rows
section
variable{prog:Program}{w:World}{A:Around}{R:Result->Shared->Prop}{s:Shared}
theorem Zbm {elt target iter:Expr} {ifs:List Expr} {scope:Scope} {pos:Pos} {it acc:Value} {env:Env} (I:Nat->Shared->Prop)
 (turn:∀n s,I n s->wpAny (model prog w) A (pyNext it) (λr s₁=>match r with
   |none=>R (.ok .next) s₁
   |some v=>wpAny (model prog w) A (letOwnedTupleGo target it v) (λ_ s₀=>wpAny (model prog w) A (assign target env v) (λ_ s₂=>
    wpAny (model prog w) A (forIn ifs true λc r=>if r=true then do let ok <-isTrue c env (eval c env);pure (ForInStep.yield ok)else pure (ForInStep.yield r)) (λok s₃=>
     if ok=true then wpAny (model prog w) A (eval elt env) (λx s₄=>
      wpAny (model prog w) A (call (.builtin "list.append") [acc,x]) (λ_ s₅=>∃m,m<n/\I m s₅) (notedBy (model prog w) A env λe s'=>R (.error e) s') s₄) (notedBy (model prog w) A env λe s'=>R (.error e) s') s₃
     else ∃m,m<n/\I m s₃) (notedBy (model prog w) A env λe s'=>R (.error e) s') s₂) (notedBy (model prog w) A env λe s'=>R (.error e) s') s₀) (notedBy (model prog w) A env λe s'=>R (.error e) s') s₁) (notedBy (model prog w) A env λe s'=>R (.error e) s') s)
 (n:Nat) (h:I n s) :
 codeAny (model prog w) A (.compLoop (.ListComp elt [⟨target,iter,ifs,0⟩] scope pos) 0 it acc env) R s:=by
 refine codeAny_loop rfl I (λn s hI => ?_) n h;show wpAny _ A ((compTurn (.ListComp elt [⟨target,iter,ifs,0⟩] scope pos) 0 it acc env).onRaise (λx=>do noteFrame x env;theTreesLotGoes x)) _ _ s;refine wpAny_noted ?_;rw [compTurn_list];refine wpAny_bind (wpAny_standAt (wpAny_bind (wpAny_mono (turn n s hI) (λr s₁ h₁ => ?_) λ_ _ h'=>h')));cases r with
 |none=>exact wpAny_pure h₁
 |some v=>
  refine wpAny_bind (wpAny_mono h₁ (λ_ s₀ h₀ => ?_) λ_ _ h'=>h');refine wpAny_bind (wpAny_mono h₀ (λ_ s₂ h₂=>wpAny_bind (wpAny_mono h₂ (λok s₃ h₃ => ?_) λ_ _ h'=>h')) λ_ _ h'=>h');cases ok with
  |false=>exact wpAny_pure ⟨rfl,h₃⟩
  |true=>
   exact wpAny_bind (wpAny_bind (wpAny_mono h₃ (λx s₄ h₄=>wpAny_bind (wpAny_mono h₄ (λ_ s₅ h₅=>wpAny_pure (wpAny_pure ⟨rfl,h₅⟩)) λ_ _ h'=>h')) λ_ _ h'=>h'))
end
def Yt(cells:List (Str×Addr)):List (Str×NameKind)->List (Str×Addr)->List (Str×Addr)
 | [],acc=>acc
 |(n,k)::r,acc=>Yt cells r (if(k == .free)=true then(n,(cells.lookup n).getD 0)::acc else acc)
theorem JT{env:Env}:∀(names:List (Str×NameKind))(acc:List (Str×Addr)),(∀x∈names,x.2 = .free->∃c,env.cells.lookup x.1=some c) ->
 (forIn names acc λ(x:Str×NameKind) (r:List (Str×Addr))=>match x with
   |(name,kind)=>if(kind == .free)=true then(do let c <-cellOf env name;pure (ForInStep.yield ((name,c)::r)))else pure (ForInStep.yield r))=(pure (Yt env.cells names acc):Sem _)
 | [],acc,_=>rfl
 |(n,k)::r,acc,h=>by
  rw [List.forIn_cons];show((if(k == .free)=true then(do let c <-cellOf env n;pure (ForInStep.yield ((n,c)::acc)))else pure (ForInStep.yield acc)) >>= _)=_
  by_cases hk:(k == .free)=true
  · obtain⟨c,hc⟩:=h (n,k) List.mem_cons_self (by simpa using hk)
    have e:cellOf env n=pure c:=by
     unfold cellOf;rw [hc]
    rw [if_pos hk,e];show(forIn r ((n,c)::acc) _:Sem _)=_;rw [JT r _ λx hx=>h x (List.mem_cons_of_mem _ hx)]
    conv=>rhs;unfold Yt
    rw [if_pos hk,hc];rfl
  · rw [if_neg hk]
    show(forIn r acc _:Sem _)=_;rw [JT r _ λx hx=>h x (List.mem_cons_of_mem _ hx)]
    conv=>rhs;unfold Yt
    rw [if_neg hk]
theorem Zac{scope:Scope}{env:Env}(h:∀x∈scope.names,x.2 = .free->∃c,env.cells.lookup x.1=some c):closureFor scope env=pure (Yt env.cells scope.names []):=by
 have e:=JT (env:=env) scope.names [] h;unfold closureFor;show((forIn scope.names ([]:List (Str×Addr)) _:Sem _) >>= λcs=>pure cs)=_
 have e2:(forIn scope.names ([]:List (Str×Addr)) λ(x:Str×NameKind) (r:List (Str×Addr))=>match x with
  |(name,kind)=>if(kind == .free)=true then(do let c <-cellOf env name;pure (ForInStep.yield ((name,c)::r)))else pure (ForInStep.yield r))=(pure (Yt env.cells scope.names []):Sem _):=e
 rw [e2];rfl
theorem XJ{cells:List (Str×Addr)}{x:Str}{c:Addr}:∀(names:List (Str×NameKind))(acc:List (Str×Addr)),(∀y∈names,y.2 = .free->∃c,cells.lookup y.1=some c) ->
 (∀c,acc.lookup x=some c->cells.lookup x=some c)->(Yt cells names acc).lookup x=some c->cells.lookup x=some c
 | [],acc,_,ha,h=>ha c h
 |(n,k)::r,acc,hf,ha,h=>by
  unfold Yt at h;refine XJ r _ (λy hy=>hf y (List.mem_cons_of_mem _ hy)) (λc' h' => ?_) h
  by_cases hk:(k == .free)=true
  · rw [if_pos hk]at h'
    obtain⟨c0,hc0⟩:=hf (n,k) List.mem_cons_self (by simpa using hk);rw [List.lookup_cons]at h';cases hx:x == n with
    |true=>
     rw [hx]at h';have e:x=n:=eq_of_beq hx;subst e;have h'':(cells.lookup x).getD 0=c':=Option.some.inj h';have hc0':cells.lookup x=some c0:=hc0;rw [hc0']at h'' ⊢;exact congrArg some h''
    |false=>
     rw [hx]at h';exact ha c' h'
  · rw [if_neg hk]at h'
    exact ha c' h'
theorem JU{cells:List (Str×Addr)}{x:Str}:∀(names:List (Str×NameKind))(acc:List (Str×Addr)),((x,NameKind.free)∈names\/∃c,acc.lookup x=some c)->∃c,(Yt cells names acc).lookup x=some c
 | [],acc,h=>by
  rcases h with h|h
  · cases h
  · exact h
 |(n,k)::r,acc,h=>by
  unfold Yt;refine JU r _ ?_;rcases h with h|⟨c,h⟩
  · rcases List.mem_cons.mp h with e|e
    · cases e
      refine .inr ⟨(cells.lookup x).getD 0,?_⟩;rw [if_pos (by rfl),List.lookup_cons];simp
    · exact .inl e
  · refine .inr ?_
    by_cases hk:(k == .free)=true
    · rw [if_pos hk,List.lookup_cons]
      cases hx:x == n with
      |true=>exact⟨_,rfl⟩
      |false=>exact⟨c,h⟩
    · rw [if_neg hk]
      exact⟨c,h⟩
structure CompSc(X:Cx)(scope:Scope)(tn cn:List Str)(js:List Nat):Prop where
 kind:scope.kind = .function
 nocell:∀y∈scope.names,y.2 ≠ .cell
 names:∀y∈scope.names,y.2 = .local->scope.names.lookup y.1=some .local
 free:∀y∈scope.names,y.2 = .free->X.env.kindOf y.1=some .cell\/X.env.kindOf y.1=some .free
 cap:∀(k:Nat)(x:Str),cn[k]? = some x->∃j,js[k]? = some j/\X.N[j]? = some x/\(X.env.kindOf x=some .cell\/X.env.kindOf x=some .free)/\scope.names.lookup x=some .free
 len:cn.length=js.length
def Zc8(onames:List (Str×NameKind))(oN:List Str)(names:List (Str×NameKind))(cn:List Str)(js:List Nat):Bool:=
 names.all (λy => !(y.2 == .cell))&&names.all (λy => !(y.2 == .local)||(names.lookup y.1 == some .local)) &&
 names.all (λy => !(y.2 == .free)||(onames.lookup y.1 == some .cell||onames.lookup y.1 == some .free)) &&
 ((cn.zip js).all λp=>oN[p.2]? == some p.1&&(onames.lookup p.1 == some .cell||onames.lookup p.1 == some .free)&&names.lookup p.1 == some .free)&&(cn.length == js.length)
theorem CompSc.mk'{X:Cx}{scope:Scope}{tn cn:List Str}{js:List Nat}{osc:Scope}{oN:List Str}(hk:scope.kind = .function)(ho:X.env.scope=osc)(hN:X.N=oN)(h:Zc8 osc.names oN scope.names cn js=true):CompSc X scope tn cn js:=by
 unfold Zc8 at h;simp only [Bool.and_eq_true]at h;obtain⟨⟨⟨⟨h1,h2⟩,h3⟩,h4⟩,h5⟩:=h;rw [List.all_eq_true]at h1 h2 h3 h4;have hlen:cn.length=js.length:=by simpa using h5
 refine⟨hk,λy hy => ?_,λy hy e => ?_,λy hy e => ?_,λk x e => ?_,hlen⟩
 · have:=h1 y hy
   simpa using this
 · have:=h2 y hy
   simpa [e]using this
 · have:=h3 y hy
   unfold Env.kindOf;rw [ho];simpa [e]using this
 · have hkl:k<cn.length:=(List.getElem?_eq_some_iff.mp e).1
   have hkj:k<js.length:=by omega
   refine⟨js[k],by simp [hkj],?_⟩
   have hz:(x,js[k])∈cn.zip js:=by
    have e2:(cn.zip js)[k]? = some (x,js[k]):=by
     rw [List.getElem?_zip_eq_some];exact⟨e,by simp [hkj]⟩
    exact List.mem_of_getElem? e2
   have:=h4 _ hz;unfold Env.kindOf;rw [ho,hN];simp only [Bool.and_eq_true,Bool.or_eq_true,beq_iff_eq]at this;exact⟨this.1.1,this.1.2,this.2⟩
def Vt(σ:St)(js:List Nat):St:=js.map λj=>(σ[j]?).getD none
def blk(n:Nat)(σ:St)(js:List Nat):St:=List.replicate n none++Vt σ js
def V3(X:Cx)(scope:Scope)(N':List Str)(C:Addr)(s₂:Shared)(H₂:Hp)(fp:List Addr)(xe:Value->Shared->Prop):Cx:=
 { X with N:=N',s₀:=s₂,H₀:=H₂,env:=compEnvC scope (Yt X.env.cells scope.names []) C X.env,outer:=X.stack,ex:=fp,fn:=λ_=>false,pn:=[],xe:=xe }
section
variable{X:Cx}{pins:List (Addr×Obj)}{σ:St}{H₂:Hp}{s₂:Shared}{scope:Scope}{tn cn:List Str}{js:List Nat}
theorem CompSc.clos(S:CompSc X scope tn cn js)(ok:X.Ok):∀y∈scope.names,y.2 = .free->∃c,X.env.cells.lookup y.1=some c:=λy hy e=>ok.has y.1 (S.free y hy e)
theorem JV{env:Env}:∀{names:List (Str×NameKind)}{x:Str}{k:NameKind},(names.map λ(n,k)=>if(k == NameKind.free&&env.scope.kind == .function&&env.kindOf n == some .cell)then(n,NameKind.cell)else(n,k)).lookup x=some k ->
 (k = .cell\/k = .free)->(∀y∈names,y.2 ≠ .cell)->(x,NameKind.free)∈names
 | [],_,_,h,_,_=>by simp at h
 |(n,k0)::r,x,k,h,hk,hc=>by
  have ih := @JV env r x k;have h:List.lookup x ((if(k0 == NameKind.free&&env.scope.kind == .function&&env.kindOf n == some .cell)=true then(n,NameKind.cell)else(n,k0))::_)=_:=h
  by_cases hb:(k0 == NameKind.free&&env.scope.kind == .function&&env.kindOf n == some .cell)=true
  · rw [if_pos hb,List.lookup_cons]at h
    have e0:k0 = .free:=by
     simp only [Bool.and_eq_true]at hb;simpa using hb.1.1
    cases hx:x == n with
    |true=>
     have e:x=n:=eq_of_beq hx;subst e;subst e0;exact List.mem_cons_self
    |false=>
     rw [hx]at h;exact List.mem_cons_of_mem _ (ih h hk λy hy=>hc y (List.mem_cons_of_mem _ hy))
  · rw [if_neg hb,List.lookup_cons]at h
    cases hx:x == n with
    |true=>
     rw [hx]at h;have e:x=n:=eq_of_beq hx;have e0:k0=k:=Option.some.inj h;subst e;subst e0;rcases hk with hk|hk
     · exact absurd hk (hc (x,k0) List.mem_cons_self)
     · subst hk
       exact List.mem_cons_self
    |false=>
     rw [hx]at h;exact List.mem_cons_of_mem _ (ih h hk λy hy=>hc y (List.mem_cons_of_mem _ hy))
theorem Zak{env:Env}:∀{names:List (Str×NameKind)}{x:Str},names.lookup x=some .free ->
 (names.map λ(n,k)=>if(k == NameKind.free&&env.scope.kind == .function&&env.kindOf n == some .cell)then(n,NameKind.cell)else(n,k)).lookup x=some .cell \/
 (names.map λ(n,k)=>if(k == NameKind.free&&env.scope.kind == .function&&env.kindOf n == some .cell)then(n,NameKind.cell)else(n,k)).lookup x=some .free
 | [],_,h=>by simp at h
 |(n,k0)::r,x,h=>by
  have ih := @Zak env r x
  show List.lookup x ((if(k0 == NameKind.free&&env.scope.kind == .function&&env.kindOf n == some .cell)=true then(n,NameKind.cell)else(n,k0))::_)=_ \/
   List.lookup x ((if(k0 == NameKind.free&&env.scope.kind == .function&&env.kindOf n == some .cell)=true then(n,NameKind.cell)else(n,k0))::_)=_
  cases hx:x == n with
  |true=>
   simp only [List.lookup_cons,hx]at h;cases h
   by_cases hb:(NameKind.free == NameKind.free&&env.scope.kind == .function&&env.kindOf n == some .cell)=true
   · rw [if_pos hb];simp [List.lookup_cons,hx]
   · rw [if_neg hb];simp [List.lookup_cons,hx]
  |false=>
   simp only [List.lookup_cons,hx]at h
   by_cases hb:(k0 == NameKind.free&&env.scope.kind == .function&&env.kindOf n == some .cell)=true
   · rw [if_pos hb];simp only [List.lookup_cons,hx];exact ih h
   · rw [if_neg hb];simp only [List.lookup_cons,hx];exact ih h
theorem Zgg{C:Addr}{fp:List Addr}{xe:Value->Shared->Prop}(S:CompSc X scope tn cn js)(I:Inv X pins σ H₂ s₂)(hC:s₂.heap.objs.size<=C)(hf:∀b∈fp,YI X pins H₂ b)(ho:∀b∈fp,∃o,s₂.heap.get? b=some o/\∀v,o.data ≠ .cell v) :
 (V3 X scope (tn++cn) C s₂ H₂ fp xe).Ok where
 mod:=I.ok.mod
 kind:=S.kind
 glob:=I.ok.glob
 blt:=I.ok.blt
 above:=hC
 inj:=λx y c h1 h2=>I.ok.inj x y c (XJ _ [] (S.clos I.ok) (λ_ z=>by cases z) h1) (XJ _ [] (S.clos I.ok) (λ_ z=>by cases z) h2)
 has:=λx hx=>by
  refine JU _ _ (.inl ?_);rcases hx with hx|hx
  · exact JV (env:=X.env) (k:=.cell) hx (Or.inl (Eq.refl NameKind.cell)) S.nocell
  · exact JV (env:=X.env) (k:=.free) hx (Or.inr (Eq.refl NameKind.free)) S.nocell
 cab:=λx c h _=>by cases h
 hd:=I.ok.hd
 frames:=I.ok.frames
 stk := .inl rfl
 exf:=λb hb=>by
  obtain⟨o,e,_⟩:=ho b hb;obtain⟨_,_,_,_,f4,_⟩:=hf b hb;exact⟨Nat.ne_of_lt (Nat.lt_of_lt_of_le (Heap.lt_size e) hC),λx c h=>f4 x c (XJ _ [] (S.clos I.ok) (λ_ z=>by cases z) h)⟩
 bs:=I.bs
 bsz:=Nat.le_trans I.ok.bsz I.sz
 noex:=λb o e hb=>by
  obtain⟨_,_,_,f3,_,_⟩:=hf b hb;rcases f3 with z|z
  · exact I.ok.noex b o e z
  · exact absurd (Nat.lt_of_lt_of_le (Heap.lt_size (I.ok.bs b o e).1) z) (Nat.lt_irrefl _)
 exfs:=λb hb z=>by
  obtain⟨_,f1,f2,_,_,_⟩:=hf b hb;exact(List.mem_cons.mp (I.stkSub b z)).elim f1 f2
 funs:=I.stack
 frf:=I.stkFree
 tb:=I.tabs
theorem Za3 {C:Addr} {fp:List Addr} {s:Shared} {H:Hp} {m:Str->Option Value} (S:CompSc X scope tn cn js) (I:Inv X pins σ H₂ s₂) (hf:∀b∈fp,YI X pins H₂ b)
 (u:Un (frs X.stack) fp H₂ H s₂.heap s.heap) :
 ∀(i:Nat)(x:Str)(v:V),(tn++cn)[i]? = some x->(blk tn.length σ js)[i]? = some (some v)->∃z,RelV v z/\ZjW (compEnvC scope (Yt X.env.cells scope.names []) C X.env) s.heap m x z:=by
 intro i x v e1 e2;unfold blk at e2
 by_cases hi:i<tn.length
 · rw [List.getElem?_append_left (by simpa using hi),List.getElem?_replicate,if_pos hi]at e2
   cases e2
 · have hi':tn.length<=i:=by omega
   rw [List.getElem?_append_right hi']at e1;rw [List.getElem?_append_right (by simpa using hi'),List.length_replicate]at e2;obtain⟨j,hj,hN,hk,hm⟩:=S.cap _ _ e1;unfold Vt at e2;rw [List.getElem?_map,hj]at e2;have e3:(σ[j]?).getD none=some v:=Option.some.inj e2
   have e4:σ[j]? = some (some v):=by
    cases q:σ[j]? with
    |none=>rw [q]at e3;cases e3
    |some z=>rw [q]at e3;exact congrArg some e3
   obtain⟨m0,_,hl⟩:=I.loc
   have hv:Vis X.env.scope x:=by
    rcases hk with hk|hk
    · exact .inr (.inl hk)
    · exact .inr (.inr hk)
   obtain⟨z,rz,l⟩:=hl j x v hN e4 hv;refine⟨z,rz,?_⟩
   obtain⟨c,hc,ob,ho,hd⟩:∃c,X.env.cells.lookup x=some c/\s₂.heap.IsCell c (some z):=by
    rcases l with⟨k,_⟩|⟨_,c,hc,q⟩
    · rcases hk with hk|hk
      · rw [hk]at k;cases k
      · rw [hk]at k;cases k
    · exact⟨c,hc,q⟩
   obtain⟨c',hc'⟩:=JU (cells:=X.env.cells) (x:=x) scope.names [] (.inl (PySem.mem_of_lookup hm))
   have ec:c'=c:=by
    have:=XJ _ [] (S.clos I.ok) (λ_ z=>by cases z) hc';rw [hc]at this;exact(Option.some.inj this).symm
   subst ec;have nf:c'∉fp:=λhb=>(hf c' hb).2.2.2.2.1 x c' hc rfl
   obtain⟨sl,q⟩:=u.any ho (I.freeC x c' hc) nf;exact .inr ⟨Zak hm,c',hc',⟨_,q,hd⟩⟩
theorem Zc9(S:CompSc X scope tn cn js):(blk tn.length σ js).length=(tn++cn).length:=by
 unfold blk Vt;rw [List.length_append,List.length_append,List.length_replicate,List.length_map,S.len]
theorem Zcw {C:Addr} {fp:List Addr} {xe:Value->Shared->Prop} {s:Shared} {H:Hp} {σ':St} {pins':List (Addr×Obj)} (S:CompSc X scope tn cn js) (I:Inv X pins σ H₂ s₂) (hf:∀b∈fp,YI X pins H₂ b)
 (I':Inv (V3 X scope (tn++cn) C s₂ H₂ fp xe) pins' σ' H s):Inv (V3 X scope (tn++cn) C s₂ H₂ fp xe) pins' (blk tn.length σ js) H s:=by
 obtain⟨m,hn,_⟩:=id I'.loc;exact⟨I'.ok,I'.os,I'.bare,I'.base,⟨m,hn,λi x v e1 e2 _=>Za3 S I hf I'.base i x v e1 e2⟩,I'.cell,I'.free,I'.freeC,I'.pin,I'.hok,Zc9 S,I'.fzs⟩
theorem Zcx {C D:Addr} {fp:List Addr} {xe:Value->Shared->Prop} {h:Heap} {tk:Nat} {ob:Obj} {m:Str->Option Value} (S:CompSc X scope tn cn js) (I:Inv X pins σ H₂ s₂) (hC:s₂.heap.objs.size<=C) (hD:s₂.heap.objs.size<=D) (hDC:D≠C)
 (hf:∀b∈fp,YI X pins H₂ b) (ho:∀b∈fp,∃o,s₂.heap.get? b=some o/\∀v,o.data ≠ .cell v) (k:∀b o,s₂.heap.get? b=some o->h.get? b=some o) (hn:h.Ns C m) (hob:h.get? D=some ob) (hcell:∀v,ob.data ≠ .cell v) :
 Inv (V3 X scope (tn++cn) C s₂ H₂ fp xe) [(D,ob)] (blk tn.length σ js) H₂ { s₂ with heap:=h,toks:=tk }:=by
 have ok:=Zgg (xe:=xe) S I hC hf ho;have u:Un (frs X.stack) fp H₂ H₂ s₂.heap h:=Un.kept k;refine⟨ok,rfl,I.bare,u,⟨m,hn,λi x v e1 e2 _=>Za3 (s:={ s₂ with heap:=h,toks:=tk }) S I hf u i x v e1 e2⟩,λx c e => ?_,I.hok.fresh hC,λx c e => ?_,λp hp => ?_,I.hok.kept k,Zc9 S,I.fzs⟩
 · obtain⟨v,o,q,d⟩:=I.cell x c (XJ _ [] (S.clos I.ok) (λ_ z=>by cases z) e)
   exact⟨v,o,k c o q,d⟩
 · exact I.freeC x c (XJ _ [] (S.clos I.ok) (λ_ z=>by cases z) e)
 · have e : p = (D, ob) := by
    have:p∈([]:List (Addr×Obj))++[(D,ob)]:=hp;simpa using this
   subst e;refine⟨hob,I.hok.fresh hD,hDC,λz => ?_,hcell⟩;have z:D∈frs X.stack:=z;rcases List.mem_cons.mp (I.stkSub D z)with e|e
   · exact absurd (Nat.lt_of_lt_of_le I.lt (by rw [<-e];exact hD)) (Nat.lt_irrefl _)
   · exact I.nofs hD e
theorem ZbX {C D:Addr} {fp:List Addr} {xe:Value->Shared->Prop} {s:Shared} {H:Hp} {σ':St} {ys:List V} {its:List Value} {n:Nat} {h':Heap} (S:CompSc X scope tn cn js) (I:Inv X pins σ H₂ s₂) (hC:s₂.heap.objs.size<=C) (hD:s₂.heap.objs.size<=D) (hDC:D≠C)
 (hf:∀b∈fp,YI X pins H₂ b) (I':Inv (V3 X scope (tn++cn) C s₂ H₂ fp xe) [(D,{ cls := .type "list",data := .seq its.toArray n })] σ' H s) (hv:Vals ys its) (hz:ys.length<=sizeLine) (hs:Heap.SameBut C s.heap h') :
 Inv X pins σ (upd H D (.lst ys)) { s with heap:=h' }:=by
 have pd:=I'.pin (D,{ cls := .type "list",data := .seq its.toArray n }) (List.mem_append_right _ List.mem_cons_self);have pd1:s.heap.get? D=some { cls := .type "list",data := .seq its.toArray n }:=pd.1;have pd2:H D=none:=pd.2.1;have hD':h'.get? D=some { cls := .type "list",data := .seq its.toArray n }:=(hs.2 D hDC).trans pd1;have hCf:H C=none:=I'.free;have old:∀b o,s₂.heap.get? b=some o->b≠C/\b≠D:=λb o e=>⟨Nat.ne_of_lt (Nat.lt_of_lt_of_le (Heap.lt_size e) hC),Nat.ne_of_lt (Nat.lt_of_lt_of_le (Heap.lt_size e) hD)⟩
 have u:=I'.base;have u:Un (frs X.stack) fp H₂ H s₂.heap s.heap:=u;refine I.call' (s':={ s with heap:=h' }) (ch:=fp) (H':=upd H D (.lst ys)) I'.os ⟨λb o e n hb hx => ?_,λb o e n hb hx => ?_,λb o e n hx => ?_,λb o e hx => ?_,λb xs e => ?_,λb o xs e => ?_,λb ps e => ?_⟩ (λb o e => ?_) I'.bare (λb hb => ?_)
 · exact(hs.2 b (old b o e).1).trans (u.keep b o e n hb hx)
 · obtain⟨sl,q⟩:=u.slot b o e n hb hx
   exact⟨sl,(hs.2 b (old b o e).1).trans q⟩
 · rw [Zc (old b o e).2]
   exact u.free b o e n hx
 · obtain⟨o',q⟩:=u.there b o e hx
   exact⟨o',(hs.2 b (old b o e).1).trans q⟩
 · have q:=u.tups b xs e
   rw [Zc (ZW q pd2)];exact q
 · have q:=u.frzs b o xs e
   rw [Zc (ZW q pd2)];exact q
 · obtain⟨more,q⟩:=u.tbls b ps e
   exact⟨more,by rw [Zc (ZW q pd2)];exact q⟩
 · by_cases hb:b=D
   · subst hb
     rw [Zm]at e;cases e;exact⟨hz,its,n,hv,hD'⟩
   · rw [Zc hb]at e
     refine(I'.hok b o e).stay (λc v hc q=>(hs.2 c ?_).trans q) (λc q=>by rw [Zc (ZW q pd2)];exact q) λc xs q=>by rw [Zc (ZW q pd2)];exact q
     rintro rfl
     rcases hc with rfl|hc
     · rw [hCf]at e;cases e
     · rw [hCf]at hc;cases hc
 · obtain⟨f0,f1,f2,f3,f4,f5⟩:=hf b hb
   exact⟨f3,f1,f4,f5⟩
end
def PTs(X:Cx)(ifs:List Expr)(t:TT):Prop:=
 ∀(pins:List (Addr×Obj))(s:Shared)(σ:St)(H:Hp)(Q:Bool->Hp->Prop),Inv X pins σ H s->t σ H Q ->
  wpAny (model X.prog X.w) X.A (forIn ifs true λc r=>if r=true then do let ok <-isTrue c X.env (eval c X.env);pure (ForInStep.yield ok)else pure (ForInStep.yield r)) (TP X pins σ Q) X.xe s
def tYes:TT:=λ_ H Q=>Q true H
theorem Qr{X:Cx}:PTs X [] tYes:=λ_ _ _ H _ I h=>wpAny_tests_nil ⟨H,I,h⟩
theorem Zda{X:Cx}{c:Expr}{t:TT}(h:PT X c t):PTs X [c] t:=λpins s σ H Q I q=>wpAny_tests_one (h pins s σ H Q I q)
def Qs(wi:TI)(g:TG)(tt:TT)(te:TE)(n:Nat)(js:List Nat):TE:=λσ H Q=>wi σ H λJ H1=>
 ∃W:Nat->Nat->List V->Hp->Prop,(∃m,W 0 m [] H1)/\∀i m ys H,W i m ys H ->
  (J.stop i H/\∀p,H p=none->Q (.ref p) (upd H p (.lst ys))) \/
  (J.go i H/\∀x H',J.yld i H x H'->g x (blk n σ js) H' λσ2 H2=>tt σ2 H2 λb H3=>
    if b=true then te σ2 H3 λy H4=>ys.length<sizeLine/\∃m',m'<m/\W (i+1) m' (ys++[y]) H4 else ∃m',m'<m/\W (i+1) m' ys H3)
section
variable{X:Cx}{tg iter elt:Expr}{ifs:List Expr}{scope:Scope}{pos:Pos}{wi:TI}{g:TG}{tt:TT}{te:TE}{tn cn:List Str}{js:List Nat}
abbrev YW(X:Cx)(scope:Scope)(N':List Str)(C:Addr)(s₂:Shared)(H₂:Hp)(fp:List Addr):Cx:=V3 X scope N' C s₂ H₂ fp λ_ _=>False
theorem V4{α:Type}{M:Model}{A:Around}{m:Sem α}{Q:α->Shared->Prop}{E:Value->Shared->Prop}{s:Shared}(h:wpAny M A m Q (λ_ _=>False) s):wpAny M A m Q E s:=wpAny_mono h (λ_ _ q=>q) λ_ _ z=>z.elim
theorem ZaA {pins:List (Addr×Obj)} {σ:St} {H₂:Hp} {s₂:Shared} {it:Addr} {fp:List Addr} {tnx:Nat->Heap->Prop} {J:It} {E:Value->Shared->Prop} {RR:Value->Addr->Result->Shared->Prop} {W:Nat->Nat->List V->Hp->Prop} {m0:Nat}
 (hc:X.calm=true) (S:CompSc X scope tn cn js)
 (hg:∀C s₂ H₂ fp,PG (YW X scope (tn++cn) C s₂ H₂ fp) tg g) (ht:∀C s₂ H₂ fp,PTs (YW X scope (tn++cn) C s₂ H₂ fp) ifs tt) (he:∀C s₂ H₂ fp,PE (YW X scope (tn++cn) C s₂ H₂ fp) elt te)
 (I2:Inv X pins σ H₂ s₂) (T:Turn X.prog X.w X.K tg J fp it tnx) (st2:tnx 0 s₂.heap) (f2:∀b∈fp,YI X pins H₂ b) (w0:W 0 m0 [] H₂)
 (turn:∀i m ys H,W i m ys H->(J.stop i H/\∀C D s its n σ',s₂.heap.objs.size<=C->s₂.heap.objs.size<=D->D≠C->Vals ys its->ys.length<=sizeLine ->
   Inv (YW X scope (tn++cn) C s₂ H₂ fp) [(D,{ cls := .type "list",data := .seq its.toArray n })] σ' H s->RR (.ref D) C (.ok .next) s) \/
   (J.go i H/\∀x H',J.yld i H x H'->g x (blk tn.length σ js) H' λσ2 H2=>tt σ2 H2 λb H3=>
     if b=true then te σ2 H3 λy H4=>ys.length<sizeLine/\∃m',m'<m/\W (i+1) m' (ys++[y]) H4 else ∃m',m'<m/\W (i+1) m' ys H3)) :
 wpAny (model X.prog X.w) X.A (newList []) (λacc s₃=>wpAny (model X.prog X.w) X.A (newFunctionEnv scope X.env.globals (Yt X.env.cells scope.names []) [] X.env.qual none .none (some X.env)) (λcenv s₄=>
  codeAny (model X.prog X.w) X.A (.compStart (.ListComp elt [⟨tg,iter,ifs,0⟩] scope pos) 0 (.ref it) acc { cenv with scope:=relabel scope X.env }) (RR acc cenv.locals) s₄) E s₃) E s₂:=by
 refine wpAny_newObj_type (wpAny_newFunctionEnv S.nocell (by intro y hy;simp at hy) (λh₁ hns₁ hsb₁ => ?_) S.kind);dsimp only at hns₁ hsb₁ ⊢;generalize hH2:s₂.heap.push { cls := .type "list",dict:=none,data := .seq ([]:List Value).toArray }=HH at hns₁ hsb₁ ⊢;have hCs:HH.objs.size=s₂.heap.objs.size+1:=by rw [<-hH2,Heap.size_push]
 have hDC:s₂.heap.objs.size≠HH.objs.size:=by rw [hCs];exact Nat.ne_of_lt (Nat.lt_succ_self _)
 have hC:s₂.heap.objs.size<=HH.objs.size:=by rw [hCs];exact Nat.le_succ _
 have hD:s₂.heap.objs.size<=s₂.heap.objs.size:=Nat.le_refl _;have old:∀b o,s₂.heap.get? b=some o->h₁.get? b=some o:=λb o e=>hsb₁.extBut b o (by rw [hCs];exact Nat.ne_of_lt (Nat.lt_succ_of_lt (Heap.lt_size e))) (Heap.get?_push_of_some _ (hH2▸Heap.get?_push_of_some _ e))
 have hacc:h₁.get? s₂.heap.objs.size=some { cls := .type "list",dict:=none,data := .seq ([]:List Value).toArray }:=hsb₁.extBut _ _ hDC (Heap.get?_push_of_some _ (hH2▸Heap.get?_push_size _ rfl));have hob:=T.obj _ _ st2
 have I3:Inv (YW X scope (tn++cn) HH.objs.size s₂ H₂ fp) [(s₂.heap.objs.size,{ cls := .type "list",dict:=none,data := .seq ([]:List Value).toArray })] (blk tn.length σ js) H₂ { s₂ with heap:=h₁,toks:=s₂.toks+([]:List (Str×Value)).length }:=
  Zcx S I2 hC hD hDC f2 hob old hns₁ hacc (λv z=>by cases z)
 have st3:tnx 0 h₁:=T.keep _ _ _ st2 λb hb o e=>old b o e
 generalize hX':YW X scope (tn++cn) HH.objs.size s₂ H₂ fp=X' at I3;generalize hs3:({ s₂ with heap:=h₁,toks:=s₂.toks+([]:List (Str×Value)).length }:Shared)=s3 at I3 ⊢;have st3':tnx 0 s3.heap:=by rw [<-hs3];exact st3
 have stat:∀{pins':List (Addr×Obj)}{H':Hp},(∀b∈fp,H' b=none)->(∀p∈pins',p.1=s₂.heap.objs.size)->∀b∈fp,YI X' pins' H' b:=λ{pins' H'} hn hp b hb=>by
  subst hX';obtain⟨o,e,_⟩:=hob b hb;obtain⟨f0,f1,f2',f3,f4,f5⟩:=f2 b hb;refine⟨hn b hb,Nat.ne_of_lt (Nat.lt_of_lt_of_le (Heap.lt_size e) hC),λz=>(List.mem_cons.mp (I2.stkSub b z)).elim f1 f2',.inl hb,λx c h=>f4 x c (XJ _ [] (S.clos I2.ok) (λ_ z=>by cases z) h),λp hpp => ?_⟩
  have:p∈pins':=by
   have q:p∈([]:List (Addr×Obj))++pins':=hpp;simpa using q
  rw [hp p this];exact Nat.ne_of_gt (Heap.lt_size e)
 have loop:codeAny (model X.prog X.w) X.A (.compLoop (.ListComp elt [⟨tg,iter,ifs,0⟩] scope pos) 0 (.ref it) (.ref s₂.heap.objs.size) X'.env) (RR (.ref s₂.heap.objs.size) HH.objs.size) s3:=by
  refine Zbm (λk s'=>∃i ys its n H',Inv X' [(s₂.heap.objs.size,{ cls := .type "list",data := .seq its n })] (blk tn.length σ js) H' s'/\Vals ys its.toList/\ys.length<=sizeLine/\tnx i s'.heap/\(∀b∈fp,H' b=none)/\W i k ys H') ?_ m0
   ⟨0,[],#[],0,H₂,I3,.nil,Nat.zero_le _,st3',λb hb=>(f2 b hb).1,w0⟩
  rintro k s4 ⟨i,ys,its,n,H4,I4,hv4,hz4,st4,fr4,w4⟩
  have eP:X'.prog=X.prog:=by rw [<-hX'];rfl
  have eW:X'.w=X.w:=by rw [<-hX'];rfl
  have eK:X'.K=X.K:=by rw [<-hX'];rfl
  have eA:X'.A=X.A:=by rw [<-hX'];rfl
  have eC:X'.calm=true:=by rw [<-hX'];exact hc
  have eE:X'.xe=λ_ _=>False:=by rw [<-hX'];rfl
  rcases turn i k ys H4 w4 with⟨stop,qn⟩|⟨go,step⟩
  · have z:=T.done X' eP eW eK eC i _ s4 (blk tn.length σ js) H4 (λ_ _=>False) I4 (stat fr4 (λp hp=>by simp at hp;rw [hp])) st4 stop
    rw [eA]at z;refine V4 (thn z λr s5 ⟨hr,I5⟩ => ?_);subst hr;subst hX';exact qn _ _ s5 its.toList n _ hC hD hDC hv4 hz4 (by simpa using I5)
  · have z:=T.item X' eP eW eK eC i _ s4 (blk tn.length σ js) H4 (λ_ _=>False) I4 (stat fr4 (λp hp=>by simp at hp;rw [hp])) st4 go
    rw [eA]at z;refine V4 (thn z λr s5 ⟨u,hr,h5⟩ => ?_);subst hr;refine V4 (thn h5 λ_ s6 ⟨x,H6,I6,r6,y6,st6,fr6⟩ => ?_);have I6':=I6.pinned (stat fr6 (λp hp=>by simp at hp;rw [hp])) (T.obj _ _ st6);have hg':PG X' tg g:=by rw [<-hX'];exact hg _ _ _ _
    have ht':PTs X' ifs tt:=by rw [<-hX'];exact ht _ _ _ _
    have he':PE X' elt te:=by rw [<-hX'];exact he _ _ _ _
    have z7:=hg' _ s6 _ H6 x u _ I6' r6 (step x H6 y6);rw [eP,eW,eA,eE]at z7;refine V4 (thn z7 λ_ s7 ⟨σ7,H7,I7,q7⟩ => ?_);have z8:=ht' _ s7 σ7 H7 _ I7 q7;rw [eP,eW,eA,eE]at z8;refine V4 (thn z8 λok s8 ⟨H8,I8,q8⟩ => ?_)
    have key:∀{σ9:St}{H9:Hp}{s9:Shared}{its':Array Value}{n':Nat},Inv X' ([(s₂.heap.objs.size,{ cls := .type "list",data := .seq its' n' })]++Xj fp s6.heap) σ9 H9 s9 ->
     Inv X' [(s₂.heap.objs.size,{ cls := .type "list",data := .seq its' n' })] (blk tn.length σ js) H9 s9/\tnx (i+1) s9.heap/\∀b∈fp,H9 b=none:=λ{σ9 H9 s9 its' n'} I9=>by
     refine⟨?_,T.keep _ _ _ st6 λb hb o e=>(I9.pin (b,o) (List.mem_append_right _ (List.mem_append_right _ (Qj hb e)))).1,λb hb => ?_⟩
     · have I9':=I9.unpinned
       subst hX';exact Zcw S I2 f2 I9'
     · obtain⟨o,e,d⟩:=T.obj _ _ st6 b hb
       exact(I9.pin (b,o) (List.mem_append_right _ (List.mem_append_right _ (Qj hb e)))).2.1
    cases ok with
    |false=>
     rw [if_neg Bool.false_ne_true]at q8 ⊢;obtain⟨m',hm,w8⟩:=q8;obtain⟨I9,st9,fr9⟩:=key I8;exact⟨m',hm,i+1,ys,its,n,H8,I9,hv4,hz4,st9,fr9,w8⟩
    |true=>
     rw [if_pos rfl]at q8 ⊢;have z9:=he' _ s8 σ7 H8 _ I8 q8;rw [eP,eW,eA,eE]at z9;refine V4 (thn z9 λv s9 ⟨y,H9,I9,r9,hl9,m',hm,w9⟩ => ?_);have pd:=I9.pin (s₂.heap.objs.size,{ cls := .type "list",data := .seq its n }) (List.mem_append_right _ (List.mem_append_left _ List.mem_cons_self));have hpl:s9.heap.PlainList s₂.heap.objs.size its:=⟨n,pd.1⟩
     have hlen:its.size=ys.length:=by rw [hv4.length];simp
     refine wpAny_list_append_plain (hsz:=by omega) hpl λh10 hl10 hs10 => ?_
     obtain⟨n10,e10⟩:=hl10;have I10:Inv X' (Xj fp s6.heap) σ7 H9 s9:=I9.pins_of λp hp=>I9.pin p (List.mem_append_right _ (List.mem_append_right _ hp))
     have nD:∀b∈fp,b≠s₂.heap.objs.size:=λb hb=>by
      obtain⟨o,e,_⟩:=hob b hb;exact Nat.ne_of_lt (Heap.lt_size e)
     have I11:Inv X' (Xj fp s6.heap) σ7 H9 { s9 with heap:=h10 }:=by
      refine I10.turned (t':=s9.toks) (it:=s₂.heap.objs.size) (λb o hb e=>(hs10.2 b hb).trans e) pd.2.1 pd.2.2.1 ?_ ?_ ?_
      · subst hX';exact .inr (Nat.le_refl _)
      · subst hX'
        intro x c h;obtain⟨v',o',q,_⟩:=I2.cell x c (XJ _ [] (S.clos I2.ok) (λ_ z=>by cases z) h);exact Nat.ne_of_lt (Heap.lt_size q)
      · intro p hp
        have hp':p∈Xj fp s6.heap:=by
         subst hX';have q:p∈([]:List (Addr×Obj))++Xj fp s6.heap:=hp;simpa using q
        exact nD _ (ZaV hp').1
     have I12:Inv X' ([(s₂.heap.objs.size,{ cls := .type "list",data := .seq (its.push v) n10 })]++Xj fp s6.heap) σ7 H9 { s9 with heap:=h10 }:=I11.pins_of λp hp=>by
      rcases List.mem_append.mp hp with q|q
      · have e:p=(s₂.heap.objs.size,{ cls := .type "list",data := .seq (its.push v) n10 }):=by simpa using q
        subst e;exact⟨e10,pd.2.1,pd.2.2.1,pd.2.2.2.1,λv z=>by cases z⟩
      · exact I11.pin p (List.mem_append_right _ q)
     obtain⟨J1,J2,J3⟩:=key I12;refine⟨m',hm,i+1,ys++[y],its.push v,n10,H9,J1,?_,?_,J2,J3,w9⟩
     · have:(its.push v).toList=its.toList++[v]:=by simp
       rw [this];exact hv4.append (.cons r9 .nil)
     · rw [List.length_append,List.length_singleton]
       omega
 have eEnv:({ newEnv scope HH.objs.size X.env.globals (Yt X.env.cells scope.names []) X.env.qual none .none (some X.env) builtinsNs with scope:=relabel scope X.env }:Env)=X'.env:=by rw [<-hX'];rfl
 have loop2:=loop;rw [<-eEnv]at loop loop2;exact codeAny_compStart_list loop (T.self X.A 0 s3 _ _ st3' loop2)
theorem UC (hc:X.calm=true) (S:CompSc X scope tn cn js) (hi:PI X tg iter wi)
 (hg:∀C s₂ H₂ fp,PG (YW X scope (tn++cn) C s₂ H₂ fp) tg g) (ht:∀C s₂ H₂ fp,PTs (YW X scope (tn++cn) C s₂ H₂ fp) ifs tt) (he:∀C s₂ H₂ fp,PE (YW X scope (tn++cn) C s₂ H₂ fp) elt te)
 (hs:∀x,foldedSetIterable iter X.env x=pure x:=by intro _;rfl) :
 PE X (.ListComp elt [⟨tg,iter,ifs,0⟩] scope pos) (Qs wi g tt te tn.length js):=by
 intro pins s σ H Q I h;rw [eval_ListComp];refine wpAny_comprehension_free (use:=none) (cl:=Yt X.env.cells scope.names []) rfl hs (Zac (S.clos I.ok)) S.kind S.names (thn (hi pins s σ H _ I h) λv s1 h1=>thn h1 λitv s2 h2 => ?_);obtain⟨it,fp,tnx,J,H2,e,I2,T,st2,f2,W,⟨m0,w0⟩,turn⟩:=h2;subst e;refine ZaA (RR:=λacc C=>compPost (model X.prog X.w) X.A X.xe none (EP X pins σ Q) acc C) (W:=W) (m0:=m0) hc S hg ht he I2 T st2 f2 w0 λi m ys H w => ?_
 rcases turn i m ys H w with⟨stop,qn⟩|r
 · refine .inl ⟨stop,λC D s its n σ' hC hD hDC hv hz I' => ?_⟩
   obtain⟨m',hn,_⟩:=id I'.loc;refine⟨m',hn,λh' hs' => ?_⟩;have pd:=I'.pin (D,{ cls := .type "list",data := .seq its.toArray n }) (List.mem_append_right _ List.mem_cons_self);exact⟨.ref D,_,ZbX S I2 hC hD hDC f2 I' hv hz hs',rfl,qn D pd.2.1⟩
 · exact .inr r
end
end L2
namespace L2
open PySem PySem.Spec PyProof.Rows
abbrev S(cs:List Nat):V := .str (tx cs)
theorem Zi3{a b:List Nat}:S a=S b ↔ a=b:=by
 constructor
 · intro h
   exact tx_inj.mp (V.str.inj h)
 · rintro rfl;rfl
section
variable{X:Cx}{pos:Pos}
theorem V5{x:Str}{j:Nat}(cs:List Nat)(h:x=tx cs):PE X (.Constant (.str x) j pos) (tC (S cs)):=by
 subst h;exact ZhO
def Its(cs:List Nat):It:=⟨λi _=>i<cs.length,λi H v H'=>H'=H/\∃c,cs[i]? = some c/\v=S [c],λi _=>cs.length<=i⟩
theorem Qt(x:Str):strIterType x = "str_ascii_iterator" \/ strIterType x = "str_iterator" := by
 unfold strIterType
 split
 · exact .inl rfl
 · exact .inr rfl
theorem Zew{P:Program}{w:World}{K:PySem.W.Frag}{tg:Expr}(it:Addr)(cs:List Nat)(t:Tok):Turn P w K tg (Its cs) [it] it (λi h=>h.IsStrIter it (strIterType (tx cs)) (tx cs) t i) where
 mem:=by simp
 obj:=λi h st b hb=>by
  have e:b=it:=by simpa using hb
  subst e;obtain⟨o,e,c,d⟩:=st;exact⟨o,e,λv z=>by rw [d]at z;cases z⟩
 keep:=λi h h' st k=>by
  obtain⟨o,e,r⟩:=st;exact⟨o,k it (by simp) o e,r⟩
 item:=by
  intro X hP hw hK hc i pins s σ H E I hf st hg;subst hP hw hK;obtain⟨f0,f1,f2,f3,f4,f5⟩:=hf it (by simp);have hg:i<cs.length:=hg;have hx:(tx cs).cps[i]? = some cs[i]:=by simp [tx,hg]
  have fin:∀(h':Heap),h'.IsStrIter it (strIterType (tx cs)) (tx cs) t (i+1)->Heap.SameBut it s.heap h' ->
   ∃u,some (Value.str ⟨#[cs[i]]⟩ s.toks)=some u/\wpAny (model X.prog X.w) X.A (letOwnedTupleGo tg (.ref it) u) (λ_ s2=>∃x H',Inv X pins σ H' s2/\RelV x u/\(Its cs).yld i H x H'/\s2.heap.IsStrIter it (strIterType (tx cs)) (tx cs) t (i+1)/\∀b∈[it],H' b=none) E { s with heap:=h',toks:=s.toks+1 }:=λh' st' sb=>by
   have I1:Inv X pins σ H { s with heap:=h',toks:=s.toks+1 }:=I.turned (λb o hb e=>(sb.2 b hb).trans e) f0 f1 f3 f4 f5;obtain⟨o,e,hc',d⟩:=id st';refine⟨_,rfl,Qi (s:={ s with heap:=h',toks:=s.toks+1 }) e hc' d ?_ ⟨S [cs[i]],H,I1,⟨s.toks,rfl⟩,⟨rfl,cs[i],by simp [hg],rfl⟩,st',λb hb=>(hf b hb).1⟩⟩;rcases Qt (tx cs)with z|z<;>rw [z]<;>decide
  rcases Qt (tx cs)with z|z
  · rw [z]at st
    refine wpAny_pyNext_ascii_item st hx λh' st' sb=>fin h' (by rw [z];exact st') sb
  · rw [z]at st
    refine wpAny_pyNext_wide_item st hx λh' st' sb=>fin h' (by rw [z];exact st') sb
 done:=by
  intro X hP hw hK hc i pins s σ H E I hf st hg;subst hP hw hK;obtain⟨f0,f1,f2,f3,f4,f5⟩:=hf it (by simp);have hg:cs.length<=i:=hg;have hx:(tx cs).cps[i]? = none:=by simp [tx];omega
  rcases Qt (tx cs)with z|z
  · rw [z]at st
    exact wpAny_pyNext_ascii_end (I.ok.hd hc) st hx λh' eb=>⟨rfl,I.turned (t':=s.toks) (λb o hb e=>eb b o hb e) f0 f1 f3 f4 f5⟩
  · rw [z]at st
    exact wpAny_pyNext_wide_end (I.ok.hd hc) st hx λh' eb=>⟨rfl,I.turned (t':=s.toks) (λb o hb e=>eb b o hb e) f0 f1 f3 f4 f5⟩
 self:=λ_ i _ _ _ st h=>by
  rcases Qt (tx cs)with z|z
  · rw [z]at st
    exact wpAny_pyIter_striter_ascii st h
  · rw [z]at st
    exact wpAny_pyIter_striter_wide st h
variable{tg:Expr}
def Vu(K:PySem.W.Frag)(tl:TE):TI:=λσ H R=>tl σ H λx H1=>(∃a xs,x = .ref a/\SqL K H1 a xs/\R (Itl K a) H1)\/(∃a xs,x = .ref a/\SqT K H1 a xs/\R (Itt K a) H1)\/∃cs,x=S cs/\R (Its cs) H1
theorem Zh1{l:Expr}{tl:TE}(hl:PE X l tl):PI X tg l (Vu X.K tl):=by
 intro pins s σ H R I h;refine thn (hl pins s σ H _ I h) λv s1 ⟨x,H1,I1,r1,q1⟩ => ?_
 rcases q1 with⟨a,xs,e,hq,q⟩|⟨a,xs,e,hq,q⟩|⟨cs,e,q⟩
 · subst e
   cases r1;obtain⟨its,rv,p,hz⟩:=I1.list hq;refine wpAny_pyIter_list p.isList ?_;refine⟨s1.heap.objs.size,[s1.heap.objs.size],_,_,H1,rfl,I1.kept (t':=s1.toks) λb o e=>Heap.get?_push_of_some _ e,ZdN a _,⟨_,Heap.get?_push_size _ rfl,rfl,rfl⟩,λb hb => ?_,q⟩;have e:b=s1.heap.objs.size:=by simpa using hb
   subst e;exact I1.fpOk (Nat.le_refl _) (I1.hok.fresh (Nat.le_refl _))
 · have hpi:=ZhT (X:=X) (tg:=tg) (l:=l) (tl:=λ_ H Q=>Q (.ref a) H)
   subst e;cases r1;obtain⟨its,rv,p,hz⟩:=I1.tuple hq;refine wpAny_pyIter_tuple (show s1.heap.IsTuple a its.toArray from p) ?_;refine⟨s1.heap.objs.size,[s1.heap.objs.size],_,_,H1,rfl,I1.kept (t':=s1.toks) λb o e=>Heap.get?_push_of_some _ e,Zaz a _,⟨_,Heap.get?_push_size _ rfl,rfl,rfl⟩,λb hb => ?_,q⟩;have e:b=s1.heap.objs.size:=by simpa using hb
   subst e;exact I1.fpOk (Nat.le_refl _) (I1.hok.fresh (Nat.le_refl _))
 · subst e
   obtain⟨t,rfl⟩:=r1;refine wpAny_pyIter_strU ?_;refine⟨s1.heap.objs.size,[s1.heap.objs.size],_,_,H1,rfl,I1.kept (t':=s1.toks) λb o e=>Heap.get?_push_of_some _ e,Zew _ cs t,⟨_,Heap.get?_push_size _ rfl,rfl,rfl⟩,λb hb => ?_,q⟩;have e:b=s1.heap.objs.size:=by simpa using hb
   subst e;exact I1.fpOk (Nat.le_refl _) (I1.hok.fresh (Nat.le_refl _))
def rAddS:R2:=λx y H Q=>∃a b,x=S a/\y=S b/\a.length+b.length<=sizeLine/\Q (S (a++b)) H
theorem op_addS:OpR X (binaryOp .Add) rAddS:=by
 intro pins s σ H x y v u Q I rx ry h;obtain⟨a,b,rfl,rfl,hz,q⟩:=h;refine Zco pins s σ H _ _ v u Q I rx ry ⟨tx a,tx b,rfl,rfl,by rw [Xl,Xl];exact hz,?_⟩;rw [Zh0];exact q
def Zi4:R2:=λx y H Q=>rI0 (λi j => .int (i+j)) x y H Q\/rAddS x y H Q\/Zkr x y H Q
def Zj7(neg:Bool):R2:=λx y H Q=>∃c b,x=S [c]/\y=S b/\Q (.bl (neg != decide (c∈b))) H
theorem op_notInS:OpR X (compareOp .NotIn) (Zj7 true):=by
 intro pins s σ H x y v u Q I rx ry h;obtain⟨c,b,rfl,rfl,q⟩:=h;refine Zbh pins s σ H _ _ v u Q I rx ry ⟨tx [c],tx b,rfl,rfl,?_⟩;have e:=StrLaws.found_one (tx b) c;rw [UA]at e;rw [show tx [c]=(⟨#[c]⟩:Str)from rfl,e];simpa using q
def Qu(K:PySem.W.Frag)(neg:Bool):R2:=λx y H Q=>Zj7 neg x y H Q\/rIn K neg x y H Q
theorem ZdV:OpR X (compareOp .NotIn) (Qu X.K true):=op_notInS.or Zbi
def rIxSt:R2:=λx y H Q=>∃a i c,x=S a/\y = .int i/\a.length<=sizeLine/\atI a i=some c/\Q (S [c]) H
theorem Zkt:IxR X rIxSt:=by
 intro value slice pins s σ H x y v u Q I rx ry h hs;obtain⟨a,i,c,rfl,rfl,hz,he,q⟩:=h;exact ZhW value slice pins s σ H _ _ v u Q I rx ry ⟨tx a,i,c,rfl,rfl,by rw [Xl];exact hz,by rw [UA];exact he,q⟩ hs
def Qv(K:PySem.W.Frag):R2:=λx y H Q=>Zj5 K x y H Q\/Zj6 K x y H Q\/rIxSt x y H Q
theorem Zku:IxR X (Qv X.K):=ix_list.or (ix_tup.or Zkt)
def UD(K:PySem.W.Frag):List V->Hp->VK->Prop:=λxs H Q=>(∃a,xs=[S a]/\a.length<=sizeLine/\Q (.int a.length) H)\/∃p ys,xs=[.ref p]/\(SqL K H p ys\/SqT K H p ys)/\Q (.int ys.length) H
theorem ZdW:Yq X (.builtin "len") (UD X.K):=by
 intro pins s σ H xs us Q I rs q;rcases q with⟨a,rfl,hz,q⟩|q
 · exact Zbk pins s σ H _ us Q I rs ⟨tx a,rfl,by rw [Xl];exact hz,by rw [Xl];exact q⟩
 · exact Zbj pins s σ H xs us Q I rs q
def rIntX:List V->Hp->VK->Prop:=λxs H Q=>(∃a,xs=[S a]/\a.length<=640/\a≠[]/\a.all Qq=true/\Q (.int (JS a:Nat)) H)\/(∃k,xs=[.bl k]/\Q (.int (if k then 1 else 0)) H)
theorem ZdX:Yq X (.type "int") rIntX:=by
 intro pins s σ H xs us Q I rs h;rcases h with⟨a,rfl,hl,hne,hd,q⟩|h
 · obtain⟨u,rfl,t,rfl⟩:=Y6 rs
   have hd':PySem.NumText.AllDigits (tx a).cps.toList:=by
    rw [UA];intro c hc;have:=List.all_eq_true.mp hd c hc;unfold Qq at this;rw [Bool.and_eq_true,decide_eq_true_eq,decide_eq_true_eq]at this;exact this
   have e:=PySem.intText_digits hd' (by rw [UA];exact hne) (by rw [Xl];omega);rw [UA]at e;exact PySem.W.KIN.call_text e (by rw [Xl];exact hl) ⟨.int (JS a:Nat),H,I.tok _,⟨_,rfl⟩,q⟩
 · exact ZdO pins s σ H xs us Q I rs (.inr h)
theorem Zex:Yq X (.builtin "isinstance") (λxs H Q=>∃x c cv t b,xs=[x,c]/\(∀v,RelV c v->v=cv)/\TyOf X.K H x t/\kitOne X.K t cv=some b/\Q (.bl b) H):=by
 intro pins s σ H xs us Q I rs h;obtain⟨x,c,cv,t,b,rfl,hc,ty,e,q⟩:=h;obtain⟨u,w',rfl,rx,rc⟩:=Zhr rs;have ec:=hc _ rc;subst ec;exact ZdR I rx ty e λtk=>⟨.bl b,H,I.tok tk,rfl,q⟩
end
section
variable{X:Cx}{K:PySem.W.Frag}{pos:Pos}{tg:Expr}
theorem ZbY(hK:X.K=K:=by rfl):OpR X (compareOp .NotIn) (Qu K true):=hK▸ZdV
theorem ZY(hK:X.K=K:=by rfl):IxR X (Qv K):=hK▸Zku
theorem Z1(hK:X.K=K:=by rfl):Yq X (.builtin "len") (UD K):=hK▸ZdW
def Zkv(K:PySem.W.Frag):List V->Hp->VK->Prop:=λxs H Q=>∃x c cv t b,xs=[x,c]/\(∀v,RelV c v->v=cv)/\TyOf K H x t/\kitOne K t cv=some b/\Q (.bl b) H
theorem XM{l:Expr}{tl:TE}(hl:PE X l tl)(hK:X.K=K:=by rfl):PI X tg l (Vu K tl):=hK▸Zh1 hl
theorem Qw{e:Expr}{ta:TE}{f:Str}(he:PE X e ta)(hb:attributeBase e f X.env (eval e X.env)=eval e X.env:=by rfl)(hK:X.K=K:=by rfl):PE X (.Attribute e f pos) (JH K ta f):=hK▸ZhV he hb
def Zfm(K:PySem.W.Frag):List V->Hp->VK->Prop:=λxs H Q=>∃p ys,xs=[.ref p]/\((SqL K H p ys/\∀l,H l=none->Q (.ref l) (upd H l (.tup ys)))\/(SqT K H p ys/\Q (.ref p) H))
def Zh2(K:PySem.W.Frag):List V->Hp->VK->Prop:=λxs H Q=>∃p ys,xs=[.ref p]/\(SqL K H p ys\/SqT K H p ys)/\∀l,H l=none->Q (.ref l) (upd H l (.lst ys))
theorem V6(hK:X.K=K:=by rfl):Yq X (.type "tuple") (Zfm K):=hK▸ZaR
theorem YK {o e:Expr} {es:List Expr} {to:TE} {t:TA} {name:Str} {apos cpos:Pos} {T id:String} {r:V->List V->Hp->VK->Prop} (pa:PlainAttrs T) (slot:Slot T name id) (hty:typeOf (.builtin id)=pure (.type "method_descriptor")) (hm:MtR X id r) (ho:PE X o to) (ha:PA X (e::es) t)
 (hbase:attributeBase o name X.env (eval o X.env)=eval o X.env:=by rfl)
 (hfew:((backTo cpos (starEach (e::es) X.env)).all (λx => !x.1)&&(backToKw cpos (keywordEach [] X.env)).all (λx=>x.1.isSome)
   && decide ((e::es).length+([]:List Keyword).length+(if([]:List Keyword).isEmpty then 0 else 1)<30))=true:=by rfl)
 (hline:(apos.endLine == cpos.line)=true:=by rfl) (hs:starEach (e::es) X.env=(false,eval e X.env)::starEach es X.env:=by rfl) (hplain:(backTo cpos (starEach es X.env)).any (·.1)=false:=by rfl) (hK:X.K=K:=by rfl) :
 PE X (.Call (.Attribute o name apos) (e::es) [] cpos) (tBM K T r to t):=hK▸Zi1 pa slot hty hm ho ha hbase hfew hline hs hplain
theorem Zht {es:List Expr} {k:Nat} {t:TGs} {n:Nat} (h:PGs X es t) (hc:X.calm=true:=by rfl)
 (hn:(assignEach es X.env).length=n:=by rfl) (hst:(assignEach es X.env).findIdx? (·.1)=none:=by rfl) (hK:X.K=K:=by rfl):PG X (.Tuple es k pos) (Qg K n t):=hK▸ZhS hc h hn hst
end
end L2
namespace L2
open PySem PySem.Spec PyProof.Rows
theorem Zey{H:Hp}{q:Addr}{o:HO}(h:H q=none):Same H (upd H q o):=λb u e=>by
 rw [Zc (ZW e h)];exact e
structure Walk(J:It)(xs:List V)(H:Hp):Prop where
 go:∀i,i<xs.length->J.go i H
 yld:∀(i:Nat)v H',i<xs.length->J.yld i H v H'->H'=H/\xs[i]? = some v
 stop:∀i,xs.length<=i->J.stop i H
end L2
namespace L2
open PySem PySem.Spec PyProof.Rows
section
variable{X:Cx}{tg:Expr}
end
end L2
namespace L2
open PySem PySem.Spec PyProof.Rows
section
variable{X:Cx}{elts:List Expr}{x1:Nat}{tpos:Pos}
end
end L2
namespace L2
open PySem PySem.Spec PyProof.Rows
section
variable{κ:Type} [DecidableEq κ]
def Zz(kvs:List (κ×V))(k:κ):Option V:=(kvs.find? λkv=>decide (kv.1=k)).map (·.2)
def ZF(kvs:List (κ×V))(k:κ)(v:V):List (κ×V):=
 if(kvs.any λkv=>decide (kv.1=k))=true then kvs.map (λkv=>if kv.1=k then(kv.1,v)else kv)else kvs++[(k,v)]
theorem YX{p:κ×V}{r:List (κ×V)}{k:κ}(e:p.1=k):Zz (p::r) k=some p.2:=by simp [Zz,List.find?_cons,e]
theorem YY{p:κ×V}{r:List (κ×V)}{k:κ}(e:¬p.1=k):Zz (p::r) k=Zz r k:=by simp [Zz,List.find?_cons,e]
theorem Vv(k:κ):∀kvs:List (κ×V),(kvs.any λkv=>decide (kv.1=k))=(Zz kvs k).isSome
 | []=>rfl
 |p::r=>by
  rw [List.any_cons]
  by_cases e:p.1=k
  · simp only [YX e,decide_eq_true e,Bool.true_or,Option.isSome_some]
  · rw [YY e,decide_eq_false e,Bool.false_or];exact Vv k r
theorem ZbZ(k j:κ)(y:V):∀kvs:List (κ×V),Zz (kvs.map λkv=>if kv.1=k then(kv.1,y)else kv) j=(Zz kvs j).map λx=>if j=k then y else x
 | []=>rfl
 |p::r=>by
  have ih:=ZbZ k j y r;rw [List.map_cons]
  by_cases h:p.1=k
  · rw [if_pos h]
    by_cases e:p.1=j
    · rw [YX (p:=(p.1,y)) e,YX e,Option.map_some,if_pos (e.symm.trans h)]
    · rw [YY (p:=(p.1,y)) e,YY e,ih]
  · rw [if_neg h]
    by_cases e:p.1=j
    · rw [YX (p:=p) e,YX e,Option.map_some,if_neg (λz=>h (e.trans z))]
    · rw [YY (p:=p) e,YY e,ih]
theorem Za4(k j:κ)(y:V):∀kvs:List (κ×V),Zz kvs k=none->Zz (kvs++[(k,y)]) j=if j=k then some y else Zz kvs j
 | [],_=>by
  by_cases e:k=j
  · rw [if_pos e.symm];exact YX (p:=(k,y)) e
  · rw [if_neg (λz=>e z.symm)];exact YY (p:=(k,y)) e
 |p::r,hn=>by
  rw [List.cons_append];have hk:¬p.1=k:=λz=>by rw [YX z]at hn;cases hn
  rw [YY hk]at hn;have ih:=Za4 k j y r hn
  by_cases e:p.1=j
  · rw [YX e,YX e,if_neg (λz=>hk (e.trans z))]
  · rw [YY e,YY e,ih]
theorem UF(kvs:List (κ×V))(k j:κ)(y:V):Zz (ZF kvs k y) j=if j=k then some y else Zz kvs j:=by
 unfold ZF
 by_cases a:(kvs.any λkv=>decide (kv.1=k))=true
 · rw [if_pos a,ZbZ]
   rw [Vv]at a
   by_cases e:j=k
   · obtain⟨x,hx⟩:=Option.isSome_iff_exists.mp a
     rw [if_pos e,e,hx,Option.map_some,if_pos rfl]
   · rw [if_neg e]
     cases Zz kvs j with
     |none=>rfl
     |some x=>rw [Option.map_some,if_neg e]
 · rw [if_neg a]
   refine Za4 k j y kvs ?_;rw [Vv]at a;cases q:Zz kvs k with
   |none=>rfl
   |some x=>rw [q]at a;exact(a rfl).elim
theorem Qx(kvs:List (κ×V))(k:κ)(v:V):(ZF kvs k v).length<=kvs.length+1:=by
 unfold ZF
 split
 · rw [List.length_map];omega
 · rw [List.length_append,List.length_cons,List.length_nil];omega
theorem Zez{kvs:List (κ×V)}{k:κ}(v:V)(h:Zz kvs k=none):ZF kvs k v=kvs++[(k,v)]:=by
 unfold ZF;rw [Vv,h];exact if_neg (by decide)
theorem RelO.isSome_eq{o:Option V}{u:Option Value}(r:RelO o u):o.isSome=u.isSome:=by
 cases o with
 |none=>cases u with
  |none=>rfl
  |some _=>exact(show False from r).elim
 |some _=>cases u with
  |none=>exact(show False from r).elim
  |some _=>rfl
theorem RelO.getD{o:Option V}{u:Option Value}{d:V}{d':Value}(r:RelO o u)(rd:RelV d d'):RelV (o.getD d) (u.getD d'):=by
 cases o with
 |none=>cases u with
  |none=>exact rd
  |some _=>exact(show False from r).elim
 |some _=>cases u with
  |none=>exact(show False from r).elim
  |some _=>exact r
theorem KV.val{kvs:List (κ×V)}{vs:List (κ×Value)}(r:KV kvs vs)(k:κ):RelO (Zz kvs k) (valueAt vs k):=by
 unfold KV at r
 induction r with
 |nil=>exact True.intro
 | @cons p q ps qs h t ih=>
  obtain⟨h1,h2⟩:=h
  by_cases e:p.1=k
  · have e':q.1=k:=h1.symm.trans e
    have b:valueAt (q::qs) k=some q.2:=by simp [valueAt,List.find?_cons,e']
    rw [YX e,b];exact h2
  · have e':¬q.1=k:=λz=>e (h1.trans z)
    have b:valueAt (q::qs) k=valueAt qs k:=by simp [valueAt,List.find?_cons,e']
    rw [YY e,b];exact ih
theorem KV.any{kvs:List (κ×V)}{vs:List (κ×Value)}(r:KV kvs vs)(k:κ):(kvs.any λkv=>decide (kv.1=k))=vs.any λkv=>decide (kv.1=k):=by
 unfold KV at r
 induction r with
 |nil=>rfl
 |cons h t ih=>rw [List.any_cons,List.any_cons,ih,h.1]
theorem KV.repl{kvs:List (κ×V)}{vs:List (κ×Value)}(r:KV kvs vs)(k:κ){y:V}{u:Value}(ry:RelV y u) :
 KV (kvs.map λkv=>if kv.1=k then(kv.1,y)else kv) (vs.map λkv=>if kv.1=k then(kv.1,u)else kv):=by
 unfold KV at r ⊢
 induction r with
 |nil=>exact .nil
 | @cons p q ps qs h t ih=>
  rw [List.map_cons,List.map_cons];refine .cons ?_ ih;obtain⟨h1,h2⟩:=h
  by_cases e:p.1=k
  · rw [if_pos e,if_pos (h1.symm.trans e)];exact⟨h1,ry⟩
  · rw [if_neg e,if_neg (λz=>e (h1.trans z))];exact⟨h1,h2⟩
theorem KV.put{kvs:List (κ×V)}{vs:List (κ×Value)}(r:KV kvs vs)(k:κ){y:V}{u:Value}(ry:RelV y u):KV (ZF kvs k y) (stored vs k u):=by
 unfold ZF stored;rw [r.any k]
 by_cases e:(vs.any λkv=>decide (kv.1=k))=true
 · rw [if_pos e,if_pos e];exact r.repl k ry
 · rw [if_neg e,if_neg e];exact Paired.snoc r ⟨rfl,ry⟩
theorem KV.keys{kvs:List (κ×V)}{vs:List (κ×Value)}(r:KV kvs vs):kvs.map (·.1)=vs.map (·.1):=by
 unfold KV at r
 induction r with
 |nil=>rfl
 |cons h t ih=>rw [List.map_cons,List.map_cons,ih,h.1]
theorem KV.length{kvs:List (κ×V)}{vs:List (κ×Value)}(r:KV kvs vs):kvs.length=vs.length:=Paired.length r
end
theorem V7{P:Program}{w:World}{k:Key}{u:Value}(r:RelV (kV k) u):(Yc P w).is k u=true:=by
 cases k with
 |inl i=>obtain⟨t,e⟩:=(show ∃t,u=Value.int i t from r);subst e;exact ZbA P w i t
 |inr x=>obtain⟨t,e⟩:=(show ∃t,u=Value.str x t from r);subst e;exact ZbB P w x t
theorem Za5{P:Program}{w:World}:∀{ks:List Key}{us:List Value},Vals (ks.map kV) us->ItemsAre (Yc P w) ks us
 | [],_,r=>by rw [List.map_nil]at r;cases r;exact .nil
 |k::ks,_,r=>by
  rw [List.map_cons]at r;cases r with
  |cons h t=>exact .cons (V7 h) (Za5 t)
abbrev KT(H:Hp):List (List Key×V)->List (List Key×Addr×Value)->Prop:=Paired λp q=>p.1=q.1/\H q.2.1=some (.tup (p.1.map kV))/\RelV p.2 q.2.2
theorem KT.val{H:Hp}{kvs:List (List Key×V)}{xs:List (List Key×Addr×Value)}(r:KT H kvs xs)(k:List Key):RelO (Zz kvs k) ((atKey xs k).map (·.2)):=by
 induction r with
 |nil=>exact True.intro
 | @cons p q ps qs h t ih=>
  obtain⟨h1,_,h2⟩:=h
  by_cases e:p.1=k
  · have e':q.1=k:=h1.symm.trans e
    have b:atKey (q::qs) k=some q.2:=by simp [atKey,List.find?_cons,e']
    rw [YX e,b];exact h2
  · have e':¬q.1=k:=λz=>e (h1.trans z)
    have b:atKey (q::qs) k=atKey qs k:=by simp [atKey,List.find?_cons,e']
    rw [YY e,b];exact ih
theorem KT.repl{H:Hp}{kvs:List (List Key×V)}{xs:List (List Key×Addr×Value)}(r:KT H kvs xs)(k:List Key){y:V}{u:Value}(ry:RelV y u) :
 KT H (kvs.map λkv=>if kv.1=k then(kv.1,y)else kv) (xs.map (putAt k u)):=by
 induction r with
 |nil=>exact .nil
 | @cons p q ps qs h t ih=>
  rw [List.map_cons,List.map_cons];refine .cons ?_ ih;obtain⟨h1,h2,h3⟩:=h;unfold putAt
  by_cases e:p.1=k
  · rw [if_pos e,if_pos (h1.symm.trans e)];exact⟨h1,h2,ry⟩
  · rw [if_neg e,if_neg (λz=>e (h1.trans z))];exact⟨h1,h2,h3⟩
theorem KT.put{H:Hp}{kvs:List (List Key×V)}{xs:List (List Key×Addr×Value)}(r:KT H kvs xs)(k:List Key){b:Addr}{y:V}{u:Value}(hb:H b=some (.tup (k.map kV)))(ry:RelV y u) :
 KT H (ZF kvs k y) (storedH xs k b u):=by
 have e:(kvs.any λkv=>decide (kv.1=k))=(atKey xs k).isSome:=by
  rw [Vv,(r.val k).isSome_eq,Option.isSome_map]
 unfold ZF storedH;rw [e]
 by_cases q:(atKey xs k).isSome=true
 · rw [if_pos q,if_pos q];exact r.repl k ry
 · rw [if_neg q,if_neg q];exact Paired.snoc r ⟨rfl,hb,ry⟩
theorem KT.keeps{H H':Hp}{kvs:List (List Key×V)}{xs:List (List Key×Addr×Value)}(r:KT H kvs xs)(ht:∀b ys,H b=some (.tup ys)->H' b=some (.tup ys)):KT H' kvs xs:=
 Paired.mapP r λ_ _ z=>⟨z.1,ht _ _ z.2.1,z.2.2⟩
section
variable{P:Program}{w:World}{H:Hp}{h:Heap}{a:Addr}
theorem Zhu{u:HO}(ok:HOk P w H h)(e:Rd H a u):ObjOk P w H h a u:=e.ok ok
theorem Vw{kvs:List (Key×V)}(ok:HOk P w H h)(e:Rd H a (.dK kvs)):kvs.length<=sizeLine/\(a == sysModules)=false/\∃vs,KV kvs vs/\h.DictOf (Yc P w) a vs:=
 show ObjOk P w H h a (.dK kvs)from Zhu ok e
theorem Zi5{kvs:List (Key×V)}(ok:HOk P w H h)(e:H a=some (.dK kvs)):kvs.length<=sizeLine/\(a == sysModules)=false/\∃vs,KV kvs vs/\h.DictOf (Yc P w) a vs:=Vw ok (.inl e)
theorem Vx{ks:List Key}(ok:HOk P w H h)(e:H a=some (.tup (ks.map kV))):(tupleKind (Yc P w)).is h ks a:=by
 obtain⟨_,its,r,o,h1,h2,⟨n,h3⟩,_⟩:=(show ObjOk P w H h a (.tup (ks.map kV))from ok a _ e)
 exact⟨o,its.toArray,n,h1,h2,h3,by simpa using Za5 r⟩
theorem X9{kvs:List (List Key×V)}(ok:HOk P w H h)(e:Rd H a (.dT kvs)):kvs.length<=sizeLine/\(a == sysModules)=false /\
 ∃xs,KT H kvs xs/\h.DictOfH (tupleKind (Yc P w)) a xs:=by
 obtain⟨z,y,xs,r,o,es,ep,h1,h2,h3,h4,h5⟩:=(show ObjOk P w H h a (.dT kvs)from Zhu ok e)
 refine⟨z,y,xs,r,o,es,ep,h1,h2,h3,h4,λx hx => ?_,h5⟩
 have all:∀{l:List (List Key×V)}{m:List (List Key×Addr×Value)},KT H l m->∀x∈m,(tupleKind (Yc P w)).is h x.1 x.2.1:=by
  intro l m q
  induction q with
  |nil=>intro x hx;exact nomatch hx
  | @cons p q ps qs hq t ih=>
   intro x hx;rcases List.mem_cons.mp hx with e|hx
   · subst e
     exact Vx ok (by rw [<-hq.1];exact hq.2.1)
   · exact ih x hx
 exact all r x hx
theorem Zhv{kvs:List (List Key×V)}(ok:HOk P w H h)(e:H a=some (.dT kvs)):kvs.length<=sizeLine/\(a == sysModules)=false /\
 ∃xs,KT H kvs xs/\h.DictOfH (tupleKind (Yc P w)) a xs:=X9 ok (.inl e)
end
def DGet(H:Hp)(a:Addr)(y:V)(r:Option V):Prop:=
 (∃kvs k,Rd H a (.dK kvs)/\y=kV k/\r=Zz kvs k)\/∃kvs k b,Rd H a (.dT kvs)/\y = .ref b/\H b=some (.tup (k.map kV))/\r=Zz kvs k
def DPut(H:Hp)(a:Addr)(y v:V)(H':Hp):Prop:=
 (∃kvs k,H a=some (.dK kvs)/\y=kV k/\kvs.length<sizeLine/\H'=upd H a (.dK (ZF kvs k v))) \/
 ∃kvs k b,H a=some (.dT kvs)/\y = .ref b/\H b=some (.tup (k.map kV))/\kvs.length<sizeLine/\H'=upd H a (.dT (ZF kvs k v))
theorem DGet.k{H:Hp}{a:Addr}{kvs:List (Key×V)}{k:Key}(e:H a=some (.dK kvs)):DGet H a (kV k) (Zz kvs k) := .inl ⟨kvs,k,.inl e,rfl,rfl⟩
theorem DGet.t{H:Hp}{a b:Addr}{kvs:List (List Key×V)}{k:List Key}(e:H a=some (.dT kvs))(eb:H b=some (.tup (k.map kV))):DGet H a (.ref b) (Zz kvs k) := .inr ⟨kvs,k,b,.inl e,rfl,eb,rfl⟩
theorem DPut.k{H:Hp}{a:Addr}{kvs:List (Key×V)}{k:Key}{v:V}(e:H a=some (.dK kvs))(hl:kvs.length<sizeLine):DPut H a (kV k) v (upd H a (.dK (ZF kvs k v))) := .inl ⟨kvs,k,e,rfl,hl,rfl⟩
theorem DPut.t{H:Hp}{a b:Addr}{kvs:List (List Key×V)}{k:List Key}{v:V}(e:H a=some (.dT kvs))(eb:H b=some (.tup (k.map kV)))(hl:kvs.length<sizeLine) :
 DPut H a (.ref b) v (upd H a (.dT (ZF kvs k v))) := .inr ⟨kvs,k,b,e,rfl,eb,hl,rfl⟩
section
variable{X:Cx}{pins:List (Addr×Obj)}{σ:St}{H:Hp}{s:Shared}{a:Addr}{y v:V}{u r:Value}{o:Option V}{A:Around}{E:Value->Shared->Prop}
theorem Inv.big(I:Inv X pins σ H s):sysModules<s.heap.objs.size:=by
 have h:mainGlobals<s.heap.objs.size:=(I.mod.glob.keeps I.bk).lt;exact Nat.lt_trans (by decide) h
theorem ZdY{Q:Value->Shared->Prop}(hu:A.units+1<cLine)(I:Inv X pins σ H s)(g:DGet H a y (some v))(ry:RelV y u)(h:∀w' s',Inv X pins σ H s'->RelV v w'->Q w' s') :
 wpAny (model X.prog X.w) A (getItem (.ref a) u) Q E s:=by
 rcases g with⟨kvs,k,e,ey,l⟩|⟨kvs,k,b,e,ey,eb,l⟩
 · subst ey
   obtain⟨z,hd,vs,rel,dd⟩:=Vw I.hok e;obtain⟨w',hw,rw'⟩:=RelO.some_of (v:=v) (o:=valueAt vs k) (by rw [l];exact rel.val k);exact wpAny_getItem_of (V7 ry) dd.mapOf hw (h w' _ (I.tok _) rw')
 · subst ey
   cases(show u=Value.ref b from ry);obtain⟨z,hd,xs,rel,dd⟩:=X9 I.hok e;obtain⟨w',hw,rw'⟩:=RelO.some_of (v:=v) (o:=(atKey xs k).map (·.2)) (by rw [l];exact rel.val k);obtain⟨p,hp,hp2⟩:=Option.map_eq_some_iff.mp hw;refine wpAny_getItem_heap (tupleKind_room_in1 hu) (Vx I.hok eb) dd hp ?_;rw [hp2];exact h w' _ (I.tok _) rw'
theorem Zkw{Q:Value->Shared->Prop}(hu:A.units+1<cLine)(I:Inv X pins σ H s)(g:DGet H a y o)(ry:RelV y u)(h:∀s',Inv X pins σ H s'->Q (.bool o.isSome) s') :
 wpAny (model X.prog X.w) A (compareOp .In u (.ref a)) Q E s:=by
 rcases g with⟨kvs,k,e,ey,l⟩|⟨kvs,k,b,e,ey,eb,l⟩
 · subst ey
   obtain⟨z,hd,vs,rel,dd⟩:=Vw I.hok e;refine wpAny_in_of (V7 ry) hd dd.mapOf ?_;rw [<-(rel.val k).isSome_eq,<-l];exact h _ (I.tok _)
 · subst ey
   cases(show u=Value.ref b from ry);obtain⟨z,hd,xs,rel,dd⟩:=X9 I.hok e;refine wpAny_in_heap (tupleKind_room_in1 hu) (Vx I.hok eb) hd dd ?_;have q:=(rel.val k).isSome_eq;rw [Option.isSome_map]at q;rw [<-q,<-l];exact h _ (I.tok _)
theorem Zgh{Q:Value->Shared->Prop}(hu:A.units+1<cLine)(I:Inv X pins σ H s)(g:DGet H a y o)(ry:RelV y u)(h:∀s',Inv X pins σ H s'->Q (.bool (!o.isSome)) s') :
 wpAny (model X.prog X.w) A (compareOp .NotIn u (.ref a)) Q E s:=by
 rcases g with⟨kvs,k,e,ey,l⟩|⟨kvs,k,b,e,ey,eb,l⟩
 · subst ey
   obtain⟨z,hd,vs,rel,dd⟩:=Vw I.hok e;refine wpAny_notIn_of (V7 ry) hd dd.mapOf ?_;rw [<-(rel.val k).isSome_eq,<-l];exact h _ (I.tok _)
 · subst ey
   cases(show u=Value.ref b from ry);obtain⟨z,hd,xs,rel,dd⟩:=X9 I.hok e;refine wpAny_notIn_heap (tupleKind_room_in1 hu) (Vx I.hok eb) hd dd ?_;have q:=(rel.val k).isSome_eq;rw [Option.isSome_map]at q;rw [<-q,<-l];exact h _ (I.tok _)
theorem JW{h':Heap}{t':Nat}{ob:HO}(I:Inv X pins σ H s)(mu:Mut (H a))(hs:Heap.SameBut a s.heap h')(he:∃q,h'.get? a=some q)(new:ObjOk X.prog X.w (upd H a ob) h' a ob) :
 Inv X pins σ (upd H a ob) { s with heap:=h',toks:=t' }:=
 I.write (x:=a) (e:=a) mu (.inl rfl) (λb q hb z=>(hs.2 b hb).trans z) he new
theorem Zh3{P:Program}{w:World}{H':Hp}{h':Heap}{kvs:List (Key×V)}{vs:List (Key×Value)}(z:kvs.length<=sizeLine)(hd:(a == sysModules)=false)(rel:KV kvs vs)(dd:h'.DictOf (Yc P w) a vs) :
 ObjOk P w H' h' a (.dK kvs):=⟨z,hd,vs,rel,dd⟩
theorem ZdZ{H':Hp}{Q:Unit->Shared->Prop}(hu:A.units+1<cLine)(I:Inv X pins σ H s)(g:DPut H a y v H')(ry:RelV y u)(rv:RelV v r)(h:∀s',Inv X pins σ H' s'->Q () s') :
 wpAny (model X.prog X.w) A (setItem (.ref a) u r) Q E s:=by
 rcases g with⟨kvs,k,e,ey,l,eH⟩|⟨kvs,k,b,e,ey,eb,l,eH⟩
 · subst ey eH
   obtain⟨z,hd,vs,rel,dd⟩:=Zi5 I.hok e;have hz:vs.length<=sizeLine:=by rw [<-rel.length];exact z
   have hl:(ZF kvs k v).length<=sizeLine:=by have:=Qx kvs k v;omega
   refine wpAny_setItem_pairs (hsz:=hz) (V7 ry) dd λh' dd' hs=>h _ ?_
   have he:∃q,h'.get? a=some q:=let⟨q,_,_,hq,_⟩:=dd';⟨q,hq⟩
   exact JW I (by rw [e];exact True.intro) hs he (Zh3 hl hd (rel.put k rv) dd')
 · subst ey eH
   cases(show u=Value.ref b from ry);obtain⟨z,hd,xs,rel,dd⟩:=Zhv I.hok e;have hz:xs.length<=sizeLine:=by rw [<-Paired.length rel];exact z
   have hl:(ZF kvs k v).length<=sizeLine:=by have:=Qx kvs k v;omega
   refine wpAny_setItem_heap (hsz:=hz) (tupleKind_room_in1 hu) (Vx I.hok eb) dd λh' dd' hs=>h _ ?_
   obtain⟨q,es,ep,hq,h2,h3,h4,_,h5⟩:=dd';refine JW I (by rw [e];exact True.intro) hs ⟨q,hq⟩ ⟨hl,hd,_,(rel.put k eb rv).keeps λc ys ec => ?_,q,es,ep,hq,h2,h3,h4,h5⟩;rw [Zc (Zhm ec e (λz=>nomatch z))];exact ec
end
section
variable{X:Cx}{pins:List (Addr×Obj)}{σ:St}{H:Hp}{s:Shared}{a:Addr}{kvs:List (Key×V)}{k:Key}{u:Value}{A:Around}{E:Value->Shared->Prop}
end
def Zj8(i:Expr):Prop:=∀ov iv,subscripted i false ov iv=operate [ov,iv] (getItem ov iv)
theorem Zgi {prog:Program} {w:World} {A:Around} {E:Value->Shared->Prop} {s:Shared} {env:Env} {value slice:Expr} {pos:Pos} {T id:String} {Q:Value->Shared->Prop}
 (hl:typeLookup (.type T) "__getitem__" = pure (some (.builtin id))) (hs:Zj8 slice)
 (h:wpAny (model prog w) A (eval value env) (λo s₁=>wpAny (model prog w) A (eval slice env) (λi s₂=>s₂.TypeIs o T/\wpAny (model prog w) A (getItem o i) Q E s₂) E s₁) E s) :
 wpAny (model prog w) A (eval (.Subscript value slice pos) env) Q E s:=by
 refine Subscript_ (wpAny_mono h (λo s₁ h₁=>wpAny_mono h₁ (λi s₂ h₂ => ?_) λ_ _ x=>x) λ_ _ x=>x);obtain⟨hT,h₂⟩:=h₂;unfold subscriptTail;refine wpAny_bind ?_;rw [getitemInPython_of_ne hT.not_modules];refine wpAny_bind (wpAny_specialOf hT hl ?_)
 have fin:wpAny (model prog w) A (subscripted slice false o i) (λr s₃=>wpAny (model prog w) A (letTemporaryGo value o r >>= λ_=>pure r) Q E s₃) E s₂:=by
  rw [hs o i];exact wpAny_operating (wpAny_mono h₂ (λr s₃ h₃=>wpAny_bind (wpAny_letTemporaryGo (wpAny_pure h₃))) λ_ _ x=>x)
 first
  |exact wpAny_pure (wpAny_bind fin)
  |exact wpAny_bind (wpAny_pure (wpAny_bind fin))
  |exact wpAny_bind fin
theorem ZbC{X:Cx}{pins:List (Addr×Obj)}{σ:St}{H:Hp}{s:Shared}{a:Addr}{y:V}{o:Option V}(I:Inv X pins σ H s)(g:DGet H a y o):s.TypeIs (.ref a) "dict" := by
 rcases g with⟨kvs,k,e,_,_⟩|⟨kvs,k,b,e,_,_,_⟩
 · obtain⟨_,_,vs,_,dd⟩:=Vw I.hok e
   exact dd.typeIs
 · obtain⟨_,_,xs,_,dd⟩:=X9 I.hok e
   exact dd.typeIs
def UG(td ty:TE):TE:=λσ H Q=>td σ H λx H1=>ty σ H1 λy H2=>∃a v,x = .ref a/\DGet H2 a y (some v)/\Q v H2
def Zj9(ty td:TE):TE:=λσ H Q=>ty σ H λy H1=>td σ H1 λx H2=>∃a o,x = .ref a/\DGet H2 a y o/\Q (.bl o.isSome) H2
def Zdb(ty td:TE):TE:=λσ H Q=>ty σ H λy H1=>td σ H1 λx H2=>∃a o,x = .ref a/\DGet H2 a y o/\Q (.bl (!o.isSome)) H2
def UH(td ty tv:TE):TS:=λD σ H=>tv σ H λv H1=>td σ H1 λx H2=>ty σ H2 λy H3=>∃a H4,x = .ref a/\DPut H3 a y v H4/\D.nx σ H4
section
variable{X:Cx}{o i e value:Expr}{pos pos' tpos:Pos}{td ty tv:TE}
theorem Qy(hu:X.A.units+1<cLine)(ho:PE X o td)(hi:PE X i ty)(hs:Zj8 i):PE X (.Subscript o i pos) (UG td ty):=by
 intro pins s σ H Q I h;refine Zgi PySem.F.slot_dict_getitem.lookup hs (thn (ho pins s σ H _ I h) λu s1 ⟨x,H1,I1,rx,q1⟩=>thn (hi pins s1 σ H1 _ I1 q1) λiv s2 ⟨y,H2,I2,ry,a,v,ex,g,q2⟩ => ?_);subst ex;obtain rfl:u=Value.ref a:=rx;exact⟨ZbC I2 g,ZdY hu I2 g ry λw' s3 I3 rw'=>⟨v,H2,I3,rw',q2⟩⟩
theorem Zh4(hu:X.A.units+1<cLine)(hi:PE X i ty)(ho:PE X o td):PC X .In i o (Zj9 ty td):=by
 intro pins s σ H Q I h;refine thn (hi pins s σ H _ I h) λiv s1 ⟨y,H1,I1,ry,q1⟩=>thn (ho pins s1 σ H1 _ I1 q1) λu s2 ⟨x,H2,I2,rx,a,ov,ex,g,q2⟩ => ?_
 subst ex;obtain rfl:u=Value.ref a:=rx;exact Zkw hu I2 g ry λs3 I3=>⟨.bl ov.isSome,H2,I3,rfl,q2⟩
theorem Zd0(hu:X.A.units+1<cLine)(hi:PE X i ty)(ho:PE X o td):PC X .NotIn i o (Zdb ty td):=by
 intro pins s σ H Q I h;refine thn (hi pins s σ H _ I h) λiv s1 ⟨y,H1,I1,ry,q1⟩=>thn (ho pins s1 σ H1 _ I1 q1) λu s2 ⟨x,H2,I2,rx,a,ov,ex,g,q2⟩ => ?_
 subst ex;obtain rfl:u=Value.ref a:=rx;exact Zgh hu I2 g ry λs3 I3=>⟨.bl (!ov.isSome),H2,I3,rfl,q2⟩
theorem V8(hu:X.A.units+1<cLine)(ho:PE X o td)(hi:PE X i ty)(hv:PE X value tv)(hs:swapsWith value (some (.Subscript o i pos')) pos.line X.env=pure false) :
 PS X (.Assign [.Subscript o i pos'] value pos) (UH td ty tv):=by
 intro pins s σ H D I h;refine wpAny_Assign_Subscript (thn (hv pins s σ H _ I h) λr s1 ⟨v,H1,I1,rv,q1⟩=>thn (ho pins s1 σ H1 _ I1 q1) λu s2 ⟨x,H2,I2,rx,q2⟩=>thn (hi pins s2 σ H2 _ I2 q2) λiv s3 ⟨y,H3,I3,ry,a,H4,ex,g,q3⟩ => ?_) hs;subst ex;obtain rfl:u=Value.ref a:=rx;exact ZdZ hu I3 g ry rv λs4 I4=>⟨σ,H4,I4,q3⟩
end
theorem ZeA{P:Program}{w:World}{H:Hp}(h:Heap)(hb:sysModules<h.objs.size):ObjOk P w H (h.push { cls := .type "dict",data := .dict #[] }) h.objs.size (.dK []):=
 ⟨Nat.zero_le _,beq_eq_false_iff_ne.mpr (Ne.symm (Nat.ne_of_lt hb)),[],.nil,Heap.DictOf.new h⟩
theorem ZeB{P:Program}{w:World}{H:Hp}(h:Heap)(hb:sysModules<h.objs.size):ObjOk P w H (h.push { cls := .type "dict",data := .dict #[] }) h.objs.size (.dT []):=
 ⟨Nat.zero_le _,beq_eq_false_iff_ne.mpr (Ne.symm (Nat.ne_of_lt hb)),[],.nil,_,#[],0,Heap.get?_push_size _ rfl,⟨rfl,rfl,rfl⟩,rfl,rfl,List.nodup_nil⟩
def tDNewK:TE:=λ_ H Q=>∀p,H p=none->Q (.ref p) (upd H p (.dK []))
def tDNewT:TE:=λ_ H Q=>∀p,H p=none->Q (.ref p) (upd H p (.dT []))
section
variable{X:Cx}{pos:Pos}
theorem ZeC:PE X (.Dict [] [] pos) tDNewK:=λpins s σ H Q I h=>
 wpAny_Dict_empty ⟨.ref s.heap.objs.size,_,I.laid (a:=s.heap.objs.size) (o:=.dK []) (t':=s.toks) (λ_ _ q=>Heap.get?_push_of_some _ q) (Nat.le_refl _) (ZeA s.heap I.big),rfl,h _ (I.hok.fresh (Nat.le_refl _))⟩
theorem UI:PE X (.Dict [] [] pos) tDNewT:=λpins s σ H Q I h=>
 wpAny_Dict_empty ⟨.ref s.heap.objs.size,_,I.laid (a:=s.heap.objs.size) (o:=.dT []) (t':=s.toks) (λ_ _ q=>Heap.get?_push_of_some _ q) (Nat.le_refl _) (ZeB s.heap I.big),rfl,h _ (I.hok.fresh (Nat.le_refl _))⟩
end
structure M1(X:Cx)(o:Expr)(m:Str)(apos:Pos)(e:Expr)(cpos:Pos):Prop where
 base:attributeBase o m X.env (eval o X.env)=eval o X.env
 few:((backTo cpos (starEach [e] X.env)).all (λx => !x.1)&&(backToKw cpos (keywordEach [] X.env)).all (λx=>x.1.isSome)
  && decide (([e]:List Expr).length+([]:List Keyword).length+(if([]:List Keyword).isEmpty then 0 else 1)<30))=true
 line:(apos.endLine == cpos.line)=true
 trees:backTo cpos (starEach [e] X.env)=[(false,eval e X.env)]
structure M2(X:Cx)(o:Expr)(m:Str)(apos:Pos)(e f:Expr)(cpos:Pos):Prop where
 base:attributeBase o m X.env (eval o X.env)=eval o X.env
 few:((backTo cpos (starEach [e,f] X.env)).all (λx => !x.1)&&(backToKw cpos (keywordEach [] X.env)).all (λx=>x.1.isSome)
  && decide (([e,f]:List Expr).length+([]:List Keyword).length+(if([]:List Keyword).isEmpty then 0 else 1)<30))=true
 line:(apos.endLine == cpos.line)=true
 trees:backTo cpos (starEach [e,f] X.env)=[(false,eval e X.env),(false,eval f X.env)]
def IsD(H:Hp)(a:Addr):Prop:=(∃kvs,Rd H a (.dK kvs))\/∃kvs,Rd H a (.dT kvs)
theorem JX{X:Cx}{pins:List (Addr×Obj)}{σ:St}{H:Hp}{s:Shared}{a:Addr}(I:Inv X pins σ H s)(d:IsD H a) :
 s.TypeIs (.ref a) "dict" /\ (∀b,Value.ref a = .ref b->∃ob,s.heap.get? b=some ob/\ob.dict=none)/\(a == sysModules)=false:=by
 rcases d with⟨kvs,e⟩|⟨kvs,e⟩
 · obtain⟨_,hd,vs,_,dd⟩:=Vw I.hok e
   refine⟨dd.typeIs,λb q => ?_,hd⟩;cases q;obtain⟨ob,_,_,h1,h2,_⟩:=dd;exact⟨ob,h1,h2.2.1⟩
 · obtain⟨_,hd,xs,_,dd⟩:=X9 I.hok e
   refine⟨dd.typeIs,λb q => ?_,hd⟩;cases q;obtain⟨ob,_,_,h1,h2,_⟩:=dd;exact⟨ob,h1,h2.2.1⟩
section
variable{X:Cx}{pins:List (Addr×Obj)}{σ:St}{H:Hp}{s:Shared}{a:Addr}{y d:V}{u r:Value}{o:Option V}{A:Around}{E:Value->Shared->Prop}
theorem Zh5{Q:Value->Shared->Prop}(hu:A.units+1<cLine)(I:Inv X pins σ H s)(g:DGet H a y o)(ry:RelV y u)(rd:RelV d r)(h:∀w' s',Inv X pins σ H s'->RelV (o.getD d) w'->Q w' s') :
 wpAny (model X.prog X.w) A (call (.builtin "dict.get") [.ref a,u,r]) Q E s:=by
 rcases g with⟨kvs,k,e,ey,l⟩|⟨kvs,k,b,e,ey,eb,l⟩
 · subst ey
   obtain⟨z,hd,vs,rel,dd⟩:=Vw I.hok e;refine call_meetsIn PySem.F.slot_dict_get dd.typeIs PySem.F.entry_dict_get (PySem.F.args_dict_get_3 _ _ _) (meets_dict_get_default (Yc X.prog X.w) a (V7 ry) hd r) ⟨_,dd.mapOf,h _ _ (I.tok _) ?_⟩;rw [l];exact(rel.val k).getD rd
 · subst ey
   cases(show u=Value.ref b from ry);obtain⟨z,hd,xs,rel,dd⟩:=X9 I.hok e;refine call_meetsIn PySem.F.slot_dict_get dd.typeIs PySem.F.entry_dict_get (PySem.F.args_dict_get_3 _ _ _) (meetsH_dict_get_default (tupleKind (Yc X.prog X.w)) a b hd r) ⟨tupleKind_room_in1 hu,k,xs,Vx I.hok eb,dd,h _ _ (I.tok _) ?_⟩;rw [l];exact(rel.val k).getD rd
end
def Zfn(td ty tx:TE):TE:=λσ H Q=>td σ H λx H1=>∃a,x = .ref a/\IsD H1 a/\ty σ H1 λy H2=>tx σ H2 λz H3=>∃o,DGet H3 a y o/\Q (o.getD z) H3
section
variable{X:Cx}{o e f:Expr}{apos cpos:Pos}{td ty tx:TE}
theorem ZeD (hu:X.A.units+1<cLine) (ho:PE X o td) (he:PE X e ty) (hf:PE X f tx) (m:M2 X o "get" apos e f cpos):PE X (.Call (.Attribute o "get" apos) [e,f] [] cpos) (Zfn td ty tx):=by
 intro pins s σ H Q I h;refine wpAny_Call_method m.base m.few m.line PySem.F.plainAttrs_dict PySem.F.slot_dict_get PySem.F.type_dict_get (thn (ho pins s σ H _ I h) λu s1 ⟨x,H1,I1,rx,a,ex,d,q1⟩ => ?_);subst ex;obtain rfl:u=Value.ref a:=rx;obtain⟨t1,t2,_⟩:=JX I1 d;refine⟨t1,t2,?_⟩;rw [m.trees]
 refine Calls.callWith_builtin rfl (Calls.evalArgs_plain (Calls.spliced_cons (thn (he pins s1 σ H1 _ I1 q1) λiv s2 ⟨y,H2,I2,ry,q2⟩=>
  Calls.spliced_cons (thn (hf pins s2 σ H2 _ I2 q2) λfv s3 ⟨z,H3,I3,rz,ov,g,q3⟩=>Calls.spliced_nil ?_))))
 exact Zh5 hu I3 g ry rz λw' s4 I4 rw'=>⟨_,H3,I4,rw',q3⟩
end
section
variable{X:Cx}{pins:List (Addr×Obj)}{σ:St}{H:Hp}{s:Shared}{a:Addr}{kvs:List (Key×V)}{A:Around}{E:Value->Shared->Prop}
end
section
variable{X:Cx}{pins:List (Addr×Obj)}{σ:St}{H:Hp}{s:Shared}{a:Addr}{y:V}{u:Value}{A:Around}{E:Value->Shared->Prop}
end
end L2
namespace DL
open PySem PySem.Spec L2
inductive D where
 |non
 |bl (b:Bool)
 |int (i:Int)
 |str (cs:List Nat)
 |lst (xs:List D)
 |tup (xs:List D)
 |obj (c:String) (ks:List String) (xs:List D)
 |dct (ks:List Key) (xs:List D)
 |dtt (ks:List (List Key)) (xs:List D)
def KL(K:PySem.W.Frag)(a:Addr)(vs:List V):Prop:=∃(o:Obj) (its:Array Value) (n:Nat),K.lookup a=some o/\o.cls = .type "list" /\ o.dict=none/\o.data = .seq its n/\its.size<=sizeLine/\Vals vs its.toList
structure Kn where
 c:String->Addr
 K:PySem.W.Frag
def Zj:D->Bool
 | .non=>true
 | .bl _=>true
 | .int _=>true
 | .str _=>true
 |_=>false
mutual
def Rep(cA:Kn)(av:Addr->Prop)(H:Hp):D->V->Prop
 | .non,v=>v = .non
 | .bl b,v=>v = .bl b
 | .int i,v=>v = .int i
 | .str cs,v=>v=S cs
 | .lst xs,v=>∃a vs,v = .ref a/\(av a->KL cA.K a vs)/\SqL cA.K H a vs/\RepL cA av H xs vs
 | .tup xs,v=>∃a vs,v = .ref a/\¬av a/\H a=some (.tup vs)/\RepL cA av H xs vs
 | .obj c ks xs,v=>∃a dx vs,v = .ref a/\¬av a/\H a=some (.ins (cA.c c) dx ((ks.map Str.ofString).zip vs))/\ks.length=xs.length/\RepL cA av H xs vs
 | .dct ks xs,v=>∃a vs,v = .ref a/\¬av a/\H a=some (.dK (ks.zip vs))/\ks.length=xs.length/\RepL cA av H xs vs
 | .dtt ks xs,v=>∃a vs,v = .ref a/\¬av a/\H a=some (.dT (ks.zip vs))/\ks.length=xs.length/\RepL cA av H xs vs
def RepL(cA:Kn)(av:Addr->Prop)(H:Hp):List D->List V->Prop
 | [],vs=>vs=[]
 |x::xs,vs=>∃v r,vs=v::r/\Rep cA av H x v/\RepL cA av H xs r
end
section
variable{cA:Kn}{G:Cn}{av av':Addr->Prop}{H H':Hp}
theorem Rd.ext{a:Addr}{u:HO}(h:Rd H a u)(k:∀o,H a=some o->H' a=some o):Rd H' a u:=by
 rcases h with h|⟨o,h⟩
 · exact .inl (k _ h)
 · exact .inr ⟨o,k _ h⟩
theorem Rd.there{a:Addr}{u:HO}(h:Rd H a u):H a≠none:=by
 rcases h with h|⟨o,h⟩<;>rw [h]<;>exact λz=>by cases z
theorem Zfo{K:PySem.W.Frag}{a:Addr}{vs:List V}(n:av a->KL K a vs)(r:SqL K H a vs)(k:∀b o,¬av b->H b=some o->H' b=some o):SqL K H' a vs:=by
 by_cases h:av a
 · exact .inr (n h)
 · rcases r with r|r
   · exact .inl (Rd.ext r λo=>k a o h)
   · exact .inr r
theorem Zi6{K:PySem.W.Frag}{a:Addr}{vs:List V}(n:av a->KL K a vs)(r:SqL K H a vs)(k:∀b,av' b->av b\/H b=none):av' a->KL K a vs:=λz=>by
 rcases k a z with z|z
 · exact n z
 · rcases r with r|r
   · exact absurd z (Rd.there r)
   · exact r
mutual
theorem Rep.ext:∀{d:D}{v:V},(∀b o,¬av b->H b=some o->H' b=some o)->Rep cA av H d v->Rep cA av H' d v
 | .non,_,_,h=>h
 | .bl _,_,_,h=>h
 | .int _,_,_,h=>h
 | .str _,_,_,h=>h
 | .lst xs,v,k,h=>by
  unfold Rep at h ⊢;obtain⟨a,vs,e,n,r,l⟩:=h;exact⟨a,vs,e,n,Zfo n r k,RepL.ext k l⟩
 | .tup xs,v,k,h=>by
  unfold Rep at h ⊢;obtain⟨a,vs,e,n,r,l⟩:=h;exact⟨a,vs,e,n,k a _ n r,RepL.ext k l⟩
 | .obj c ks xs,v,k,h=>by
  unfold Rep at h ⊢;obtain⟨a,dx,vs,e,n,r,z,l⟩:=h;exact⟨a,dx,vs,e,n,k a _ n r,z,RepL.ext k l⟩
 | .dct ks xs,v,k,h=>by
  unfold Rep at h ⊢;obtain⟨a,vs,e,n,r,z,l⟩:=h;exact⟨a,vs,e,n,k a _ n r,z,RepL.ext k l⟩
 | .dtt ks xs,v,k,h=>by
  unfold Rep at h ⊢;obtain⟨a,vs,e,n,r,z,l⟩:=h;exact⟨a,vs,e,n,k a _ n r,z,RepL.ext k l⟩
theorem RepL.ext:∀{xs:List D}{vs:List V},(∀b o,¬av b->H b=some o->H' b=some o)->RepL cA av H xs vs->RepL cA av H' xs vs
 | [],_,_,h=>h
 |x::xs,vs,k,h=>by
  unfold RepL at h ⊢;obtain⟨v,r,e,h1,h2⟩:=h;exact⟨v,r,e,Rep.ext k h1,RepL.ext k h2⟩
end
mutual
theorem Rep.av:∀{d:D}{v:V},(∀b,av' b->av b\/H b=none)->Rep cA av H d v->Rep cA av' H d v
 | .non,_,_,h=>h
 | .bl _,_,_,h=>h
 | .int _,_,_,h=>h
 | .str _,_,_,h=>h
 | .lst xs,v,k,h=>by
  unfold Rep at h ⊢;obtain⟨a,vs,e,n,r,l⟩:=h;exact⟨a,vs,e,Zi6 n r k,r,RepL.av k l⟩
 | .tup xs,v,k,h=>by
  unfold Rep at h ⊢;obtain⟨a,vs,e,n,r,l⟩:=h;exact⟨a,vs,e,λz=>(k a z).elim n (by rw [r];exact λz=>by cases z),r,RepL.av k l⟩
 | .obj c ks xs,v,k,h=>by
  unfold Rep at h ⊢;obtain⟨a,dx,vs,e,n,r,z,l⟩:=h;exact⟨a,dx,vs,e,λy=>(k a y).elim n (by rw [r];exact λz=>by cases z),r,z,RepL.av k l⟩
 | .dct ks xs,v,k,h=>by
  unfold Rep at h ⊢;obtain⟨a,vs,e,n,r,z,l⟩:=h;exact⟨a,vs,e,λy=>(k a y).elim n (by rw [r];exact λz=>by cases z),r,z,RepL.av k l⟩
 | .dtt ks xs,v,k,h=>by
  unfold Rep at h ⊢;obtain⟨a,vs,e,n,r,z,l⟩:=h;exact⟨a,vs,e,λy=>(k a y).elim n (by rw [r];exact λz=>by cases z),r,z,RepL.av k l⟩
theorem RepL.av:∀{xs:List D}{vs:List V},(∀b,av' b->av b\/H b=none)->RepL cA av H xs vs->RepL cA av' H xs vs
 | [],_,_,h=>h
 |x::xs,vs,k,h=>by
  unfold RepL at h ⊢;obtain⟨v,r,e,h1,h2⟩:=h;exact⟨v,r,e,Rep.av k h1,RepL.av k h2⟩
end
theorem Rep.scal{d:D}{v:V}(hs:Zj d=true)(h:Rep cA av H d v):Rep cA av' H' d v:=by
 cases d<;>first|exact h|cases hs
theorem Rep.same{d:D}{v:V}(k:Same H H')(h:Rep cA av H d v):Rep cA av H' d v:=h.ext λb o _=>k b o
theorem RepL.same{xs:List D}{vs:List V}(k:Same H H')(h:RepL cA av H xs vs):RepL cA av H' xs vs:=h.ext λb o _=>k b o
theorem RepL.nil:RepL cA av H [] []:=by unfold RepL;rfl
theorem RepL.cons{d:D}{v:V}{xs:List D}{vs:List V}(h:Rep cA av H d v)(t:RepL cA av H xs vs):RepL cA av H (d::xs) (v::vs):=by
 unfold RepL;exact⟨v,vs,rfl,h,t⟩
theorem RepL.uncons{d:D}{xs:List D}{vs:List V}(h:RepL cA av H (d::xs) vs):∃v r,vs=v::r/\Rep cA av H d v/\RepL cA av H xs r:=by
 unfold RepL at h;exact h
theorem RepL.nil_of{vs:List V}(h:RepL cA av H [] vs):vs=[]:=by
 unfold RepL at h;exact h
theorem RepL.length:∀{xs:List D}{vs:List V},RepL cA av H xs vs->xs.length=vs.length
 | [],vs,h=>by rw [h.nil_of];rfl
 |x::xs,vs,h=>by
  obtain⟨v,r,rfl,_,t⟩:=h.uncons;rw [List.length_cons,List.length_cons,RepL.length t]
theorem RepL.get:∀{xs:List D}{vs:List V}{i:Nat}{x:D},RepL cA av H xs vs->xs[i]? = some x->∃v,vs[i]? = some v/\Rep cA av H x v
 | [],_,_,_,_,e=>by simp at e
 |y::xs,vs,0,x,h,e=>by
  obtain⟨v,r,rfl,h1,_⟩:=h.uncons;simp at e;subst e;exact⟨v,rfl,h1⟩
 |y::xs,vs,i+1,x,h,e=>by
  obtain⟨v,r,rfl,_,t⟩:=h.uncons;obtain⟨u,h1,h2⟩:=RepL.get (i:=i) t (by simpa using e);exact⟨u,by simpa using h1,h2⟩
theorem RepL.append:∀{xs ys:List D}{vs ws:List V},RepL cA av H xs vs->RepL cA av H ys ws->RepL cA av H (xs++ys) (vs++ws)
 | [],_,vs,_,h,t=>by rw [h.nil_of];exact t
 |x::xs,ys,vs,ws,h,t=>by
  obtain⟨v,r,rfl,h1,h2⟩:=h.uncons;exact .cons h1 (RepL.append h2 t)
theorem RepL.set{d:D}{v:V}(hd:Rep cA av H d v):∀{xs:List D}{vs:List V}(i:Nat),RepL cA av H xs vs->RepL cA av H (xs.set i d) (vs.set i v)
 | [],vs,_,h=>by rw [h.nil_of];exact .nil
 |x::xs,vs,0,h=>by
  obtain⟨v',r,rfl,h1,h2⟩:=h.uncons;exact .cons hd h2
 |x::xs,vs,i+1,h=>by
  obtain⟨v',r,rfl,h1,h2⟩:=h.uncons;exact .cons h1 (RepL.set hd i h2)
def val:D->V
 | .bl b => .bl b
 | .int i => .int i
 | .str cs=>S cs
 |_ => .non
theorem Rep.val{d:D}{v:V}(hs:Zj d=true)(h:Rep cA av H d v):v=DL.val d:=by
 cases d<;>first|exact h|cases hs
theorem Rep.of_val{d:D}(hs:Zj d=true):Rep cA av H d (DL.val d):=by
 cases d<;>first|rfl|cases hs
theorem RepL.vals:∀{xs:List D}{vs:List V},xs.all Zj=true->RepL cA av H xs vs->vs=xs.map DL.val
 | [],vs,_,h=>h.nil_of
 |x::xs,vs,hs,h=>by
  rw [List.all_cons,Bool.and_eq_true]at hs;obtain⟨v,r,rfl,h1,h2⟩:=h.uncons;rw [List.map_cons,h1.val hs.1,RepL.vals hs.2 h2]
theorem RepL.of_vals:∀{xs:List D},xs.all Zj=true->RepL cA av H xs (xs.map DL.val)
 | [],_ => .nil
 |x::xs,hs=>by
  rw [List.all_cons,Bool.and_eq_true]at hs;exact .cons (.of_val hs.1) (RepL.of_vals hs.2)
def RepT(cA:Kn)(t i:Addr->Prop)(H:Hp):D->V->Prop
 | .lst xs,v=>∃a vs,v = .ref a/\(t a->KL cA.K a vs)/\SqL cA.K H a vs/\RepL cA i H xs vs
 | .tup xs,v=>∃a vs,v = .ref a/\¬t a/\H a=some (.tup vs)/\RepL cA i H xs vs
 | .obj c ks xs,v=>∃a dx vs,v = .ref a/\¬t a/\H a=some (.ins (cA.c c) dx ((ks.map Str.ofString).zip vs))/\ks.length=xs.length/\RepL cA i H xs vs
 | .dct ks xs,v=>∃a vs,v = .ref a/\¬t a/\H a=some (.dK (ks.zip vs))/\ks.length=xs.length/\RepL cA i H xs vs
 | .dtt ks xs,v=>∃a vs,v = .ref a/\¬t a/\H a=some (.dT (ks.zip vs))/\ks.length=xs.length/\RepL cA i H xs vs
 |d,v=>v=DL.val d
theorem Rep.t{d:D}{v:V}(h:Rep cA av H d v):RepT cA av av H d v:=by
 cases d<;>first|exact h|(unfold Rep at h;exact h)
theorem RepT.r{d:D}{v:V}(h:RepT cA av av H d v):Rep cA av H d v:=by
 cases d<;>first|exact h|(unfold Rep;exact h)
theorem RepT.weak{t t' i i':Addr->Prop}{d:D}{v:V}(ht:∀a,t' a->t a)(hi:∀a,i' a->i a)(h:RepT cA t i H d v):RepT cA t' i' H d v:=by
 cases d with
 |lst xs=>obtain⟨a,vs,e,n,r,l⟩:=h;exact⟨a,vs,e,λz=>n (ht a z),r,l.av λb z => .inl (hi b z)⟩
 |tup xs=>obtain⟨a,vs,e,n,r,l⟩:=h;exact⟨a,vs,e,λz=>n (ht a z),r,l.av λb z => .inl (hi b z)⟩
 |obj c ks xs=>obtain⟨a,dx,vs,e,n,r,z,l⟩:=h;exact⟨a,dx,vs,e,λz=>n (ht a z),r,z,l.av λb z => .inl (hi b z)⟩
 |dct ks xs=>obtain⟨a,vs,e,n,r,z,l⟩:=h;exact⟨a,vs,e,λz=>n (ht a z),r,z,l.av λb z => .inl (hi b z)⟩
 |dtt ks xs=>obtain⟨a,vs,e,n,r,z,l⟩:=h;exact⟨a,vs,e,λz=>n (ht a z),r,z,l.av λb z => .inl (hi b z)⟩
 |_=>exact h
theorem RepT.same{t i:Addr->Prop}{d:D}{v:V}(k:Same H H')(h:RepT cA t i H d v):RepT cA t i H' d v:=by
 cases d with
 |lst xs=>obtain⟨a,vs,e,n,r,l⟩:=h;exact⟨a,vs,e,n,k.seq r,l.same k⟩
 |tup xs=>obtain⟨a,vs,e,n,r,l⟩:=h;exact⟨a,vs,e,n,k a _ r,l.same k⟩
 |obj c ks xs=>obtain⟨a,dx,vs,e,n,r,z,l⟩:=h;exact⟨a,dx,vs,e,n,k a _ r,z,l.same k⟩
 |dct ks xs=>obtain⟨a,vs,e,n,r,z,l⟩:=h;exact⟨a,vs,e,n,k a _ r,z,l.same k⟩
 |dtt ks xs=>obtain⟨a,vs,e,n,r,z,l⟩:=h;exact⟨a,vs,e,n,k a _ r,z,l.same k⟩
 |_=>exact h
end
abbrev Env:=List (Option D)
structure Cn where
 cA:Kn
 pin:Nat->Option (Addr ⊕ V)
def AV(av:Addr->Prop)(A:Nat->Option Addr)(a:Addr):Prop:=av a\/∃i,A i=some a
def Own(cA:Kn)(av:Addr->Prop)(H:Hp):D->Addr->Prop
 | .lst xs,a=>∃vs,H a=some (.lst vs)/\RepL cA av H xs vs
 | .obj c ks xs,a=>∃dx vs,H a=some (.ins (cA.c c) dx ((ks.map Str.ofString).zip vs))/\ks.length=xs.length/\RepL cA av H xs vs
 | .dct ks xs,a=>∃vs,H a=some (.dK (ks.zip vs))/\ks.length=xs.length/\RepL cA av H xs vs
 | .dtt ks xs,a=>∃vs,H a=some (.dT (ks.zip vs))/\ks.length=xs.length/\RepL cA av H xs vs
 |_,_=>False
structure ER(G:Cn)(ow:List Nat)(H0:Hp)(av:Addr->Prop)(A:Nat->Option Addr)(σ:St)(H:Hp)(δ:Env):Prop where
 same:Same H0 H
 avd:∀a,av a->H0 a≠none
 fr:∀i a,A i=some a->H0 a=none
 inj:∀i j a,A i=some a->A j=some a->i=j
 live:∀i a,A i=some a->H a≠none
 dom:∀i,A i≠none->i∈ow
 dom':∀i∈ow,A i≠none
 len:σ.length=δ.length
 pin:∀i a,G.2 i=some (.inl a)->A i=some a
 kept:∀i v,G.2 i=some (.inr v)->σ[i]? = some (some v)
 var:∀(i:Nat)(d:D),δ[i]? = some (some d)->∃v,σ[i]? = some (some v)/\(A i=none->Rep G.1 (AV av A) H d v)/\(∀a,A i=some a->v = .ref a/\Own G.1 (AV av A) H d a)
inductive Ql where
 |cl|tp|dt
def RepQ(cA:Kn)(av:Addr->Prop)(A:Nat->Option Addr)(H:Hp):Ql->D->V->Prop
 | .cl,d,v=>RepT cA (AV av A) (AV av A) H d v
 | .tp,d,v=>RepT cA av (AV av A) H d v
 | .dt,d,v=>RepT cA av av H d v
def Ql.it:Ql->Ql
 | .dt => .dt
 |_ => .cl
section
variable{cA:Kn}{G:Cn}{ow:List Nat}{H0 H H':Hp}{av:Addr->Prop}{A:Nat->Option Addr}{σ:St}{δ:Env}
theorem AV.l{a:Addr}(h:av a):AV av A a := .inl h
def Ql.iv(q:Ql)(av:Addr->Prop)(A:Nat->Option Addr):Addr->Prop:=match q with
 | .dt=>av
 |_=>AV av A
theorem RepQ.tp{q:Ql}{d:D}{v:V}(h:RepQ cA av A H q d v):RepT cA av (q.iv av A) H d v:=by
 cases q with
 |cl=>exact h.weak (λa => .inl) λa z=>z
 |tp=>exact h
 |dt=>exact h
theorem RepQ.any{q:Ql}{d:D}{v:V}(h:RepQ cA av A H q d v):Rep cA av H d v:=by
 cases q with
 |cl=>exact(h.weak (λa => .inl) λa => .inl).r
 |tp=>exact(h.weak (λa z=>z) λa => .inl).r
 |dt=>exact h.r
theorem RepQ.same{q:Ql}{d:D}{v:V}(k:Same H H')(h:RepQ cA av A H q d v):RepQ cA av A H' q d v:=by
 cases q<;>exact RepT.same k h
theorem ER.mono(E:ER G ow H0 av A σ H δ)(k:Same H H'):ER G ow H0 av A σ H' δ:=by
 refine⟨E.same.trans k,E.avd,E.fr,E.inj,λi a e => ?_,E.dom,E.dom',E.len,E.pin,E.kept,λi d e => ?_⟩
 · have:=E.live i a e
   cases q:H a with
   |none=>exact absurd q this
   |some o=>rw [k a o q];exact λz=>by cases z
 · obtain⟨v,h1,h2,h3⟩:=E.var i d e
   refine⟨v,h1,λz=>(h2 z).same k,λa z=>⟨(h3 a z).1,?_⟩⟩;have:=(h3 a z).2;cases d with
   |lst xs=>obtain⟨vs,q1,q2⟩:=this;exact⟨vs,k _ _ q1,q2.same k⟩
   |obj c ks xs=>obtain⟨dx,vs,q1,q0,q2⟩:=this;exact⟨dx,vs,k _ _ q1,q0,q2.same k⟩
   |dct ks xs=>obtain⟨vs,q1,q0,q2⟩:=this;exact⟨vs,k _ _ q1,q0,q2.same k⟩
   |dtt ks xs=>obtain⟨vs,q1,q0,q2⟩:=this;exact⟨vs,k _ _ q1,q0,q2.same k⟩
   |_=>exact this
theorem ER.avl(E:ER G ow H0 av A σ H δ):∀a,AV av A a->H a≠none:=λa h=>by
 rcases h with h|⟨i,h⟩
 · have:=E.avd a h
   cases q:H0 a with
   |none=>exact absurd q this
   |some o=>rw [E.same a o q];exact λz=>by cases z
 · exact E.live i a h
theorem ER.avH(E:ER G ow H0 av A σ H δ):∀a,av a->H a≠none:=λa h=>E.avl a (.inl h)
end
def VE(G:Cn)(ow:List Nat)(te:TE)(q:Ql)(ε:Env->Option D):Prop:=
 ∀H0 av A σ H δ,ER G ow H0 av A σ H δ->∀d,ε δ=some d->∀Q:VK,(∀v H',Same H H'->RepQ G.1 av A H' q d v->Q v H')->te σ H Q
def VF(G:Cn)(ow:List Nat)(te:TE)(ε:Env->Option D):Prop:=
 ∀H0 av A σ H δ,ER G ow H0 av A σ H δ->∀d,ε δ=some d->∀Q:VK,(∀p vs xs H1,Same H H1->H1 p=none->RepL G.1 (AV av A) H1 xs vs->d = .lst xs->Q (.ref p) (upd H1 p (.lst vs)))->te σ H Q
def VT(G:Cn)(ow:List Nat)(tt:TT)(τ:Env->Option Bool):Prop:=
 ∀H0 av A σ H δ,ER G ow H0 av A σ H δ->∀b,τ δ=some b->∀Q:Bool->Hp->Prop,(∀H',Same H H'->Q b H')->tt σ H Q
def RepQL(cA:Kn)(av:Addr->Prop)(A:Nat->Option Addr)(H:Hp)(q:Ql):List D->List V->Prop
 | [],vs=>vs=[]
 |x::xs,vs=>∃v r,vs=v::r/\RepQ cA av A H q x v/\RepQL cA av A H q xs r
def VA(G:Cn)(ow:List Nat)(ta:TA)(q:Ql)(α:Env->Option (List D)):Prop:=
 ∀H0 av A σ H δ,ER G ow H0 av A σ H δ->∀ds,α δ=some ds->∀Q:List V->Hp->Prop,(∀vs H',Same H H'->RepQL G.1 av A H' q ds vs->Q vs H')->ta σ H Q
section
variable{cA:Kn}{G:Cn}{ow:List Nat}
theorem RepQL.same{av:Addr->Prop}{A:Nat->Option Addr}{H H':Hp}{q:Ql}(k:Same H H'):∀{xs:List D}{vs:List V},RepQL cA av A H q xs vs->RepQL cA av A H' q xs vs
 | [],_,h=>h
 |x::xs,vs,h=>by
  obtain⟨v,r,e,h1,h2⟩:=h;exact⟨v,r,e,h1.same k,RepQL.same k h2⟩
theorem RepQL.cl{av:Addr->Prop}{A:Nat->Option Addr}{H:Hp}:∀{xs:List D}{vs:List V},RepQL cA av A H .cl xs vs->RepL cA (AV av A) H xs vs
 | [],_,h=>by unfold RepL;exact h
 |x::xs,vs,h=>by
  obtain⟨v,r,e,h1,h2⟩:=h;subst e;exact .cons (RepT.r h1) (RepQL.cl h2)
theorem RepQL.any{av:Addr->Prop}{A:Nat->Option Addr}{H:Hp}{q:Ql}:∀{xs:List D}{vs:List V},RepQL cA av A H q xs vs->RepL cA av H xs vs
 | [],_,h=>by unfold RepL;exact h
 |x::xs,vs,h=>by
  obtain⟨v,r,e,h1,h2⟩:=h;subst e;exact .cons h1.any (RepQL.any h2)
theorem VE.dt{te:TE}{q:Ql}{ε:Env->Option D}(h:VE G ow te q ε):VE G ow te .dt ε:=λH0 av A σ H δ E d e Q k=>
 h H0 av A σ H δ E d e Q λv H' s r=>k v H' s r.any.t
theorem Yh{H:Hp}{p:Addr}{o:HO}(h:H p=none):Same H (upd H p o):=Zey h
theorem VF.cl{te:TE}{ε:Env->Option D}(h:VF G ow te ε):VE G ow te .cl ε:=λH0 av A σ H δ E d e Q k=>
 h H0 av A σ H δ E d e Q λp vs xs H1 s hp l hd=>by
  subst hd;refine k _ _ (s.trans (Yh hp)) ⟨p,vs,rfl,λz=>((E.mono s).avl p z hp).elim,SqL.of Zm,l.same (Yh hp)⟩
def Va(ε:Env->Option D)(δ:Env):Option D:=match ε δ with
 |some d=>if Zj d then some d else none
 |none=>none
theorem VE.scal{te:TE}{q:Ql}{ε:Env->Option D}(h:VE G ow te q ε):VE G ow te .cl (Va ε):=λH0 av A σ H δ E d e Q k=>by
 unfold Va at e;cases he:ε δ with
 |none=>rw [he]at e;cases e
 |some d'=>
  rw [he]at e
  by_cases hs:Zj d'=true
  · have e':d'=d:=by simpa [hs]using e
    subst e';exact h H0 av A σ H δ E d' he Q λv H' s r=>k v H' s (Rep.scal hs r.any).t
  · simp [hs]at e
def Za(i:Nat)(δ:Env):Option D:=match δ[i]? with
 |some (some d)=>some d
 |_=>none
theorem ZT{i:Nat}{δ:Env}{d:D}(h:Za i δ=some d):δ[i]? = some (some d):=by
 unfold Za at h;cases e:δ[i]? with
 |none=>rw [e]at h;cases h
 |some o=>
  rw [e]at h;cases o with
  |none=>cases h
  |some x=>exact congrArg (some∘some) (Option.some.inj h)
theorem Zd(i:Nat)(hi:(ow.contains i)=false:=by rfl):VE G ow (Zq i) .cl (Za i):=λH0 av A σ H δ E d e Q k=>by
 obtain⟨v,h1,h2,_⟩:=E.var i d (ZT e)
 have hn:A i=none:=by
  cases q:A i with
  |none=>rfl
  |some a=>
   have:=E.dom i (by rw [q];exact λz=>by cases z);simp at hi;exact absurd this hi
 exact⟨v,h1,k v H (Same.refl H) (h2 hn).t⟩
theorem Vb(i:Nat)(hi:(ow.contains i)=true):VE G ow (Zq i) .tp (Za i):=λH0 av A σ H δ E d e Q k=>by
 obtain⟨v,h1,_,h3⟩:=E.var i d (ZT e);have hi':i∈ow:=by simpa using hi
 cases q:A i with
 |none=>exact absurd q (E.dom' i hi')
 |some a=>
  obtain⟨rfl,o⟩:=h3 a q;have na:¬av a:=λz=>E.avd a z (E.fr i a q)
  refine⟨_,h1,k _ H (Same.refl H) ?_⟩;cases d with
  |lst xs=>obtain⟨vs,q1,q2⟩:=o;exact⟨a,vs,rfl,λz=>(na z).elim,SqL.of q1,q2⟩
  |obj c ks xs=>obtain⟨dx,vs,q1,q0,q2⟩:=o;exact⟨a,dx,vs,rfl,na,q1,q0,q2⟩
  |dct ks xs=>obtain⟨vs,q1,q0,q2⟩:=o;exact⟨a,vs,rfl,na,q1,q0,q2⟩
  |dtt ks xs=>obtain⟨vs,q1,q0,q2⟩:=o;exact⟨a,vs,rfl,na,q1,q0,q2⟩
  |_=>exact False.elim o
def eC(d:D)(_:Env):Option D:=some d
theorem Zr{v:V}{d:D}(hs:Zj d=true)(hv:v=val d):VE G ow (tC v) .cl (eC d):=λH0 av A σ H δ E d' e Q k=>by
 have e':d=d':=Option.some.inj e;subst e' hv;exact k _ H (Same.refl H) (Rep.of_val hs).t
def Y7(cA:Kn)(r:R2)(f:D->D->Option D):Prop:=
 ∀(t t' i:Addr->Prop)(H:Hp)(x y:D)(vx vy:V)(d:D),(∀a,i a->H a≠none)->RepT cA t i H x vx->RepT cA t' i H y vy->f x y=some d->∀Q:VK,(∀v H',Same H H'->Rep cA i H' d v->Q v H')->r vx vy H Q
def eOp(f:D->D->Option D)(a b:Env->Option D)(δ:Env):Option D:=match a δ with
 |some x=>match b δ with
  |some y=>f x y
  |none=>none
 |none=>none
theorem Qz{f:D->D->Option D}{a b:Env->Option D}{δ:Env}{d:D}(h:eOp f a b δ=some d):∃x y,a δ=some x/\b δ=some y/\f x y=some d:=by
 unfold eOp at h;cases ea:a δ with
 |none=>rw [ea]at h;cases h
 |some x=>
  rw [ea]at h;cases eb:b δ with
  |none=>rw [eb]at h;cases h
  |some y=>rw [eb]at h;exact⟨x,y,rfl,rfl,h⟩
def Ql.jn:Ql->Ql->Ql
 | .dt,_ => .dt
 |_,.dt => .dt
 |_,_ => .cl
theorem Zk{r:R2}{f:D->D->Option D}{ta tb:TE}{qa qb:Ql}{a b:Env->Option D}(hr:Y7 G.1 r f)(ha:VE G ow ta qa a)(hb:VE G ow tb qb b):VE G ow (tOp r ta tb) (qa.jn qb) (eOp f a b):=λH0 av A σ H δ E d e Q k=>by
 obtain⟨x,y,ex,ey,ed⟩:=Qz e;refine ha H0 av A σ H δ E x ex _ λvx H1 s1 r1=>hb H0 av A σ H1 δ (E.mono s1) y ey _ λvy H2 s2 r2 => ?_
 have E2:=(E.mono s1).mono s2;have r1':=(r1.same s2).tp;have r2':=r2.tp;have key:∀i:Addr->Prop,(∀a,i a->H2 a≠none)->RepT G.1 av i H2 x vx->RepT G.1 av i H2 y vy->(∀v H',Same H2 H'->Rep G.1 i H' d v->Q v H')->r vx vy H2 Q:=λi hi h1 h2 h3=>hr av av i H2 x y vx vy d hi h1 h2 ed Q h3
 have toav:∀{dd:D}{v:V},RepT G.1 av (AV av A) H2 dd v->RepT G.1 av av H2 dd v:=λh=>h.weak (λa z=>z) λa => .inl
 cases qa with
 |dt=>
  refine key av E2.avH r1' ?_ λv H' s3 r3=>k v H' ((s1.trans s2).trans s3) r3.t
  cases qb with
  |dt=>exact r2'
  |cl=>exact toav r2'
  |tp=>exact toav r2'
 |cl=>
  cases qb with
  |dt=>exact key av E2.avH (toav r1') r2' λv H' s3 r3=>k v H' ((s1.trans s2).trans s3) r3.t
  |cl=>exact key _ E2.avl r1' r2' λv H' s3 r3=>k v H' ((s1.trans s2).trans s3) r3.t
  |tp=>exact key _ E2.avl r1' r2' λv H' s3 r3=>k v H' ((s1.trans s2).trans s3) r3.t
 |tp=>
  cases qb with
  |dt=>exact key av E2.avH (toav r1') r2' λv H' s3 r3=>k v H' ((s1.trans s2).trans s3) r3.t
  |cl=>exact key _ E2.avl r1' r2' λv H' s3 r3=>k v H' ((s1.trans s2).trans s3) r3.t
  |tp=>exact key _ E2.avl r1' r2' λv H' s3 r3=>k v H' ((s1.trans s2).trans s3) r3.t
end
end DL
namespace DL
open PySem PySem.Spec L2
mutual
def toP:D->PyData
 | .non => .none
 | .bl b => .bool b
 | .int i => .int i
 | .str cs => .str (tx cs)
 | .lst xs => .list (Xm xs)
 | .tup xs => .tuple (Xm xs)
 | .obj _ _ _ => .dict []
 | .dct _ _ => .dict []
 | .dtt _ _ => .dict []
def Xm:List D->List PyData
 | []=>[]
 |x::xs=>toP x::Xm xs
end
section
variable{X:Cx}{cA:Kn}
mutual
theorem UJ{pins:List (Addr×Obj)}{σ:L2.St}{H:Hp}{s:Shared}{av:Addr->Prop}(hK:cA.K=X.K)(I:Inv X pins σ H s):∀(d:D)(v:V)(u:Value),PyData.canLay0 (toP d)=true->Rep cA av H d v->RelV v u->∃as,Reads s.heap u (toP d) as
 | .non,v,u,_,h,r=>by
  cases(show v = .non from h);cases r;exact⟨_,.none⟩
 | .bl b,v,u,_,h,r=>by
  cases(show v = .bl b from h);cases r;exact⟨_,.bool b⟩
 | .int i,v,u,_,h,r=>by
  cases(show v = .int i from h);obtain⟨t,rfl⟩:=r;exact⟨_,.int i t⟩
 | .str cs,v,u,_,h,r=>by
  cases(show v=S cs from h);obtain⟨t,rfl⟩:=r;exact⟨_,.str _ t⟩
 | .lst xs,v,u,c,h,r=>by
  unfold Rep at h;obtain⟨a,vs,rfl,_,rd,l⟩:=h;cases r;obtain⟨its,rv,⟨ob,n,e,hc,hd,hs⟩,z⟩:=I.list (show SqL X.K H a vs from hK▸rd);obtain⟨as,ra⟩:=JY hK I xs vs its (by unfold toP PyData.canLay0 at c;exact c) l rv;unfold toP;exact⟨_,.list e hc hs (by simpa using ra)⟩
 | .tup xs,v,u,c,h,r=>by
  unfold Rep at h;obtain⟨a,vs,rfl,_,rd,l⟩:=h;cases r;obtain⟨z,its,rv,ob,e,hc,⟨n,hd⟩,_⟩:=(show ObjOk X.prog X.w H s.heap a (.tup vs)from I.hok a _ rd)
  obtain⟨as,ra⟩:=JY hK I xs vs its (by unfold toP PyData.canLay0 at c;exact c) l rv;unfold toP;exact⟨_,.tuple e hc hd (by simpa using ra)⟩
 | .obj c' ks xs,v,u,c,h,r=>by
  unfold toP PyData.canLay0 at c;cases c
 | .dct ks xs,v,u,c,h,r=>by
  unfold toP PyData.canLay0 at c;cases c
 | .dtt ks xs,v,u,c,h,r=>by
  unfold toP PyData.canLay0 at c;cases c
theorem JY{pins:List (Addr×Obj)}{σ:L2.St}{H:Hp}{s:Shared}{av:Addr->Prop}(hK:cA.K=X.K)(I:Inv X pins σ H s):∀(xs:List D)(vs:List V)(us:List Value),PyData.canLayAll0 (Xm xs)=true->RepL cA av H xs vs->Vals vs us->∃as,ReadsAll s.heap us (Xm xs) as
 | [],vs,us,_,h,r=>by
  rw [h.nil_of]at r;cases r;exact⟨_,.nil⟩
 |x::xs,vs,us,c,h,r=>by
  obtain⟨v,rr,rfl,h1,h2⟩:=h.uncons;cases r with
  |cons r1 r2=>
   unfold Xm PyData.canLayAll0 at c;rw [Bool.and_eq_true]at c;obtain⟨a1,q1⟩:=UJ hK I x v _ c.1 h1 r1;obtain⟨a2,q2⟩:=JY hK I xs rr _ c.2 h2 r2;unfold Xm;exact⟨_,.cons q1 q2⟩
end
end
def eqD(x y:D):Option D:=
 if Zj x&&Zj y&&scal (val x) (val y)then some (.bl (decide (val x=val y)))
 else if SeqAt.shaped (toP x)&&SeqAt.shaped (toP y)then some (.bl (PyData.eqv (toP x) (toP y)))else none
def neD(x y:D):Option D:=match eqD x y with
 |some (.bl b)=>some (.bl (!b))
 |_=>none
def QA(cA:Kn)(neg:Bool):R2:=λx y H Q=>∃av av' dx dy b,Rep cA av H dx x/\Rep cA av' H dy y/\eqD dx dy=some (.bl b)/\Q (.bl (neg != b)) H
section
variable{X:Cx}{cA:Kn}
theorem UK(hu:X.A.units+64<cLine)(hK:cA.K=X.K:=by rfl):OpR X (compareOp .Eq) (QA cA false):=by
 intro pins s σ H x y v u Q I rx ry h;obtain⟨av,av',dx,dy,b,hx,hy,e,q⟩:=h;unfold eqD at e
 by_cases h1:(Zj dx&&Zj dy&&scal (val dx) (val dy))=true
 · rw [if_pos h1]at e
   simp only [Bool.and_eq_true]at h1;obtain⟨⟨s1,s2⟩,s3⟩:=h1;have e1:=hx.val s1;have e2:=hy.val s2;subst e1 e2;have e':decide (val dx=val dy)=b:=by simpa using e
   exact Qm pins s σ H _ _ v u Q I rx ry ⟨s3,by rw [e'];simpa using q⟩
 · rw [if_neg h1]at e
   by_cases h2:(SeqAt.shaped (toP dx)&&SeqAt.shaped (toP dy))=true
   · rw [if_pos h2]at e
     rw [Bool.and_eq_true]at h2;obtain⟨as,ra⟩:=UJ hK I dx x v (SeqAt.canLay_of_shaped h2.1) hx rx;obtain⟨bs,rb⟩:=UJ hK I dy y u (SeqAt.canLay_of_shaped h2.2) hy ry;have e':PyData.eqv (toP dx) (toP dy)=b:=by simpa using e
     exact PyProof.Rows.eq_dataH ra rb h2.1 h2.2 hu (by rw [e'];exact⟨.bl b,H,I,rfl,by simpa using q⟩)
   · rw [if_neg h2]at e
     cases e
theorem QB(hu:X.A.units+64<cLine)(hK:cA.K=X.K:=by rfl):OpR X (compareOp .NotEq) (QA cA true):=by
 intro pins s σ H x y v u Q I rx ry h;obtain⟨av,av',dx,dy,b,hx,hy,e,q⟩:=h;unfold eqD at e
 by_cases h1:(Zj dx&&Zj dy&&scal (val dx) (val dy))=true
 · rw [if_pos h1]at e
   simp only [Bool.and_eq_true]at h1;obtain⟨⟨s1,s2⟩,s3⟩:=h1;have e1:=hx.val s1;have e2:=hy.val s2;subst e1 e2;have e':decide (val dx=val dy)=b:=by simpa using e
   exact Zi0 pins s σ H _ _ v u Q I rx ry ⟨s3,by rw [e'];simpa using q⟩
 · rw [if_neg h1]at e
   by_cases h2:(SeqAt.shaped (toP dx)&&SeqAt.shaped (toP dy))=true
   · rw [if_pos h2]at e
     rw [Bool.and_eq_true]at h2;obtain⟨as,ra⟩:=UJ hK I dx x v (SeqAt.canLay_of_shaped h2.1) hx rx;obtain⟨bs,rb⟩:=UJ hK I dy y u (SeqAt.canLay_of_shaped h2.2) hy ry;have e':PyData.eqv (toP dx) (toP dy)=b:=by simpa using e
     exact PyProof.Rows.ne_dataH ra rb h2.1 h2.2 hu (by rw [e'];exact⟨.bl (!b),H,I,rfl,by simpa using q⟩)
   · rw [if_neg h2]at e
     cases e
theorem RepT.av0{t i:Addr->Prop}{H:Hp}{d:D}{v:V}(h:RepT cA t i H d v):Rep cA (λ_=>False) H d v:=(h.weak (λ_ z=>z.elim) λ_ z=>z.elim).r
theorem Zfp{x y d:D}(h:eqD x y=some d):∃b,d = .bl b:=by
 unfold eqD at h
 split at h
 · exact⟨_,(Option.some.inj h).symm⟩
 · split at h
   · exact⟨_,(Option.some.inj h).symm⟩
   · cases h
theorem UL:Y7 cA (QA cA false) eqD:=λt t' i H x y vx vy d _ hx hy e Q k=>by
 obtain⟨b,rfl⟩:=Zfp e;exact⟨_,_,x,y,b,hx.av0,hy.av0,e,k _ H (Same.refl H) (by cases b<;>rfl)⟩
theorem QC:Y7 cA (QA cA true) neD:=λt t' i H x y vx vy d _ hx hy e Q k=>by
 unfold neD at e;cases he:eqD x y with
 |none=>rw [he]at e;cases e
 |some z=>
  obtain⟨b,rfl⟩:=Zfp he;rw [he]at e;have e':D.bl (!b)=d:=Option.some.inj e;subst e';exact⟨_,_,x,y,b,hx.av0,hy.av0,he,k _ H (Same.refl H) (by cases b<;>rfl)⟩
def V9(x:List Nat)(n:Int):List Nat:=(List.replicate n.toNat x).flatten
theorem Za6(x:List Nat):∀(k:Nat)(acc:Array Nat),(List.replicate k x.toArray).foldl (· ++ ·) acc=acc++(List.replicate k x).flatten.toArray
 |0,acc=>by simp
 |k+1,acc=>by
  rw [List.replicate_succ,List.replicate_succ,List.foldl_cons,Za6 x k,List.flatten_cons];simp
theorem Zh6(x:List Nat)(n:Int):Txt.mul (tx x) n=tx (V9 x n):=by
 unfold Txt.mul V9
 by_cases h1:n<1
 · rw [if_pos h1]
   have:n.toNat=0:=by omega
   rw [this];rfl
 · rw [if_neg h1]
   by_cases h2:(n == 1||(tx x).length == 0)=true
   · rw [if_pos h2]
     rw [Bool.or_eq_true]at h2;rcases h2 with h2|h2
     · have:n=1:=by simpa using h2
       subst this;simp
     · have : x = [] := by
        have:(tx x).length=0:=by simpa using h2
        rw [Xl]at this;exact List.eq_nil_of_length_eq_zero this
       subst this;simp
   · rw [if_neg h2]
     have:=Za6 x n.toNat #[];rw [this];simp
def rMulS:R2:=λx y H Q=>∃a n,x=S a/\y = .int n/\(n<2 ^ 63 /\ -(2 ^ 63)<=n/\a.length*n.toNat<=sizeLine)/\Q (S (V9 a n)) H
theorem op_mulS:OpR X (binaryOp .Mult) rMulS:=by
 intro pins s σ H x y v u Q I rx ry h;obtain⟨a,n,rfl,rfl,⟨h1,h2,h3⟩,q⟩:=h;obtain⟨t,rfl⟩:=rx;obtain⟨t',rfl⟩:=ry;refine SB.mul ⟨?_,λhn hc => ?_,λhn hc => ?_⟩ λt' k=>⟨S (V9 a n),H,I.tok _,⟨_,by rw [Zh6]⟩,q⟩
 · have e1:decide (n < -(2 ^ 63:Int))=false:=decide_eq_false (by omega)
   have e2:decide (n ≥ 2 ^ 63)=false:=decide_eq_false (by omega);rw [e1,e2];rfl
 · rw [Xl]
   have hs:sizeLine=16777216:=sizeLine_eq;intro hgt
   have h5:(a.length:Int)*n<=16777216:=by
    have:(a.length:Int)*n=((a.length*n.toNat:Nat):Int):=by
     rw [Int.natCast_mul,Int.toNat_of_nonneg (by omega)]
    rw [this];omega
   have h6:(2 ^ 63-1) / n<(a.length:Int):=hgt
   have h7:(2 ^ 63-1:Int)<(a.length:Int)*n:=by
    have:=Int.lt_mul_of_ediv_lt (show(0:Int)<n by omega) h6;rw [Int.mul_comm];rw [Int.mul_comm]at this;exact this
   omega
 · rw [Xl]
   show decide (a.length*n.toNat>sizeLine)=false;exact decide_eq_false (by omega)
instance (i j:Int):Decidable (CMul i j):=by unfold CMul;infer_instance
instance (i j:Int):Decidable (Xk i j):=by unfold Xk;infer_instance
def addD:D->D->Option D
 | .int i,.int j=>some (.int (i+j))
 | .str a,.str b=>if a.length+b.length<=sizeLine then some (.str (a++b))else none
 |_,_=>none
def Zka:D->D->Option D
 | .int i,.int j=>some (.int (i-j))
 |_,_=>none
def Zkb:D->D->Option D
 | .int i,.int j=>if CMul i j then some (.int (i*j))else none
 | .str a,.int n=>if n<2 ^ 63 /\ -(2 ^ 63)<=n/\a.length*n.toNat<=sizeLine then some (.str (V9 a n))else none
 |_,_=>none
def fdivD:D->D->Option D
 | .int i,.int j=>if Xk i j then some (.int (i / j))else none
 |_,_=>none
def modD:D->D->Option D
 | .int i,.int j=>if 0<j then some (.int (i % j))else none
 |_,_=>none
def Y8(p:Int->Int->Bool):D->D->Option D
 | .int i,.int j=>some (.bl (p i j))
 |_,_=>none
theorem Zh7:Y7 cA Zi4 addD:=λt t' i H x y vx vy d _ hx hy e Q k=>by
 cases x<;>cases y<;>first|(cases e;done)|skip
 · cases(show vx=_ from hx);cases(show vy=_ from hy)
   cases e;exact .inl ⟨_,_,rfl,rfl,k _ H (Same.refl H) rfl⟩
 · cases(show vx=_ from hx);cases(show vy=_ from hy)
   rename_i a b;dsimp only [addD]at e
   by_cases hz:a.length+b.length<=sizeLine
   · rw [if_pos hz]at e
     cases e;exact .inr (.inl ⟨_,_,rfl,rfl,hz,k _ H (Same.refl H) rfl⟩)
   · rw [if_neg hz]at e;cases e
theorem QD:Y7 cA (rI Xk λi j => .int (i / j)) fdivD:=λt t' i H x y vx vy d _ hx hy e Q k=>by
 cases x<;>cases y<;>first|(cases e;done)|skip
 cases(show vx=_ from hx);cases(show vy=_ from hy);rename_i a b;dsimp only [fdivD]at e
 by_cases hz:Xk a b
 · rw [if_pos hz]at e
   cases e;exact⟨_,_,rfl,rfl,hz,k _ H (Same.refl H) rfl⟩
 · rw [if_neg hz]at e;cases e
theorem YA:Y7 cA (rI (λ_ j=>0<j) λi j => .int (i % j)) modD:=λt t' i H x y vx vy d _ hx hy e Q k=>by
 cases x<;>cases y<;>first|(cases e;done)|skip
 cases(show vx=_ from hx);cases(show vy=_ from hy);rename_i a b;dsimp only [modD]at e
 by_cases hz:0<b
 · rw [if_pos hz]at e
   cases e;exact⟨_,_,rfl,rfl,hz,k _ H (Same.refl H) rfl⟩
 · rw [if_neg hz]at e;cases e
theorem QE{p:Int->Int->Bool}:Y7 cA (rI0 λi j => .bl (p i j)) (Y8 p):=λt t' i H x y vx vy d _ hx hy e Q k=>by
 cases x<;>cases y<;>first|(cases e;done)|skip
 cases(show vx=_ from hx);cases(show vy=_ from hy);cases e;exact⟨_,_,rfl,rfl,k _ H (Same.refl H) rfl⟩
def inD(neg:Bool):D->D->Option D
 | .str [c],.str b=>some (.bl (neg != decide (c∈b)))
 |x,.lst ys=>if Zj x&&ys.all Zj then some (.bl (if neg then !(inV (val x) (ys.map val))else inV (val x) (ys.map val)))else none
 |x,.tup ys=>if Zj x&&ys.all Zj then some (.bl (if neg then !(inV (val x) (ys.map val))else inV (val x) (ys.map val)))else none
 |_,_=>none
theorem UM{d:D}:Zj d=true->Ys (val d)=true:=by
 intro h;cases d<;>first|rfl|cases h
theorem UN:∀{xs:List D},xs.all Zj=true->(xs.map val).all Ys=true
 | [],_=>rfl
 |x::xs,h=>by
  rw [List.all_cons,Bool.and_eq_true]at h;rw [List.map_cons,List.all_cons,UM h.1,UN h.2];rfl
theorem Zgj{t i:Addr->Prop}{H:Hp}{d:D}{v:V}(hs:Zj d=true)(h:RepT cA t i H d v):v=val d:=by
 cases d<;>first|exact h|cases hs
theorem Zhw{neg:Bool}:Y7 cA (Qu cA.K neg) (inD neg):=λt t' i H x y vx vy d _ hx hy e Q k=>by
 have seq:∀ys,(y = .lst ys\/y = .tup ys)->(if Zj x&&ys.all Zj then some (D.bl (if neg then !(inV (val x) (ys.map val))else inV (val x) (ys.map val)))else none)=some d->Qu cA.K neg vx vy H Q:=λys hy' e=>by
  by_cases hz:(Zj x&&ys.all Zj)=true
  · rw [if_pos hz]at e
    rw [Bool.and_eq_true]at hz;have ex:=Zgj hz.1 hx;subst ex;cases e;rcases hy' with rfl|rfl
    · obtain⟨a,vs,rfl,_,rd,l⟩:=hy
      have ev:=l.vals hz.2;subst ev;exact .inr ⟨a,_,rfl,.inl rd,UM hz.1,UN hz.2,k _ H (Same.refl H) rfl⟩
    · obtain⟨a,vs,rfl,_,rd,l⟩:=hy
      have ev:=l.vals hz.2;subst ev;exact .inr ⟨a,_,rfl,.inr (SqT.of rd),UM hz.1,UN hz.2,k _ H (Same.refl H) rfl⟩
  · rw [if_neg hz]at e;cases e
 cases y with
 |lst ys=>exact seq ys (.inl rfl) (by cases x<;>first|exact e|(rename_i cs;cases cs<;>first|exact e|(rename_i c r;cases r<;>exact e)))
 |tup ys=>exact seq ys (.inr rfl) (by cases x<;>first|exact e|(rename_i cs;cases cs<;>first|exact e|(rename_i c r;cases r<;>exact e)))
 |str b=>
  cases x with
  |str cs=>
   cases cs with
   |nil=>cases e
   |cons c r=>
    cases r with
    |cons _ _=>cases e
    |nil=>
     cases(show vx=_ from hx);cases(show vy=_ from hy);cases e;exact .inl ⟨c,b,rfl,rfl,k _ H (Same.refl H) rfl⟩
  |_=>cases e
 |_=>cases x<;>first|(cases e;done)|(rename_i cs;cases cs<;>first|(cases e;done)|(rename_i c r;cases r<;>cases e))
def ixD:D->D->Option D
 | .lst xs,.int i=>atI xs i
 | .tup xs,.int i=>atI xs i
 | .str cs,.int i=>if cs.length<=sizeLine then(atI cs i).map λc => .str [c]else none
 |_,_=>none
theorem Zdc{av:Addr->Prop}{H:Hp}{xs:List D}{vs:List V}{i:Int}{d:D}(l:RepL cA av H xs vs)(h:atI xs i=some d):∃v,atI vs i=some v/\Rep cA av H d v:=by
 unfold atI at h ⊢;rw [l.length]at h;cases e:ixN vs.length i with
 |none=>rw [e]at h;cases h
 |some j=>
  rw [e]at h;exact l.get h
theorem Z3:Y7 cA (Qv cA.K) ixD:=λt t' i H x y vx vy d _ hx hy e Q k=>by
 cases y<;>first|(cases x<;>cases e;done)|skip
 rename_i j;cases(show vy=_ from hy);cases x<;>first|(cases e;done)|skip
 · cases(show vx=_ from hx)
   rename_i cs;dsimp only [ixD]at e
   by_cases hz:cs.length<=sizeLine
   · rw [if_pos hz]at e
     cases ea:atI cs j with
     |none=>rw [ea]at e;cases e
     |some c=>
      rw [ea]at e;cases e;exact .inr (.inr ⟨cs,j,c,rfl,rfl,hz,ea,k _ H (Same.refl H) rfl⟩)
   · rw [if_neg hz]at e;cases e
 · obtain⟨a,vs,rfl,_,rd,l⟩:=hx
   obtain⟨v,h1,h2⟩:=Zdc l e;exact .inl ⟨a,vs,j,v,rfl,rfl,rd,h1,k v H (Same.refl H) h2⟩
 · obtain⟨a,vs,rfl,_,rd,l⟩:=hx
   obtain⟨v,h1,h2⟩:=Zdc l e;exact .inr (.inl ⟨a,vs,j,v,rfl,rfl,SqT.of rd,h1,k v H (Same.refl H) h2⟩)
end
end DL
namespace DL
open PySem PySem.Spec L2
section
variable{cA:Kn}{G:Cn}{ow:List Nat}
def bD:Option D->Option Bool
 |some (.bl b)=>some b
 |_=>none
theorem Zdd{o:Option D}{b:Bool}(h:bD o=some b):o=some (.bl b):=by
 cases o with
 |none=>cases h
 |some d=>cases d<;>first|(cases h;rfl)|cases h
def xB(ε:Env->Option D)(δ:Env):Option Bool:=bD (ε δ)
theorem Vy{te:TE}{q:Ql}{ε:Env->Option D}(h:VE G ow te q ε):VT G ow (tB te) (xB ε):=λH0 av A σ H δ E b e Q k=>
 h H0 av A σ H δ E _ (Zdd e) _ λv H' s r=>⟨b,by cases q<;>exact r,k H' s⟩
theorem YL{te:TE}{q:Ql}{ε:Env->Option D}(h:VE G ow te q ε):VT G ow (Vp te) (xB ε):=λH0 av A σ H δ E b e Q k=>
 h H0 av A σ H δ E _ (Zdd e) _ λv H' s r=>⟨b,by cases q<;>exact r,k H' s⟩
def Zkc(τ:Env->Option Bool)(δ:Env):Option Bool:=match τ δ with
 |some b=>some (!b)
 |none=>none
def Ym(τ υ:Env->Option Bool)(δ:Env):Option Bool:=match τ δ with
 |some true=>υ δ
 |some false=>some false
 |none=>none
def xOr(τ υ:Env->Option Bool)(δ:Env):Option Bool:=match τ δ with
 |some true=>some true
 |some false=>υ δ
 |none=>none
theorem QF{t u:TT}{τ υ:Env->Option Bool}(h:VT G ow t τ)(h':VT G ow u υ):VT G ow (ZjY t u) (Ym τ υ):=λH0 av A σ H δ E b e Q k=>by
 unfold Ym at e;cases he:τ δ with
 |none=>rw [he]at e;cases e
 |some c=>
  rw [he]at e;refine h H0 av A σ H δ E c he _ λH' s => ?_
  cases c with
  |true=>exact Vs (h' H0 av A σ H' δ (E.mono s) b e _ λH2 s2=>k H2 (s.trans s2))
  |false=>cases e;exact Vr (k H' s)
theorem QG:VT G ow tYes (λ_=>some true):=λH0 av A σ H δ E b e Q k=>by
 cases e;exact k H (Same.refl H)
theorem blq{av:Addr->Prop}{A:Nat->Option Addr}{H:Hp}{q:Ql}{b:Bool}:RepQ cA av A H q (.bl b) (.bl b):=by cases q<;>exact rfl
theorem qbl{av:Addr->Prop}{A:Nat->Option Addr}{H:Hp}{q:Ql}{b:Bool}{v:V}(h:RepQ cA av A H q (.bl b) v):v = .bl b:=by cases q<;>exact h
def Xn(a b:Env->Option D)(δ:Env):Option D:=match a δ with
 |some (.bl true)=>b δ
 |some (.bl false)=>some (.bl false)
 |_=>none
def eOr(a b:Env->Option D)(δ:Env):Option D:=match a δ with
 |some (.bl true)=>some (.bl true)
 |some (.bl false)=>b δ
 |_=>none
def Vz(a:Env->Option D)(δ:Env):Option D:=match a δ with
 |some (.bl b)=>some (.bl (!b))
 |_=>none
theorem Zfq{ta tb:TE}{qa qb:Ql}{a b:Env->Option D}(ha:VE G ow ta qa a)(hb:VE G ow tb qb b):VE G ow (Zho ta tb) qb (Xn a b):=λH0 av A σ H δ E d e Q k=>by
 unfold Xn at e;cases he:a δ with
 |none=>rw [he]at e;cases e
 |some x=>
  rw [he]at e;cases x<;>first|(cases e;done)|skip
  rename_i c;refine ha H0 av A σ H δ E _ he _ λv H' s r=>⟨c,qbl r,?_⟩
  cases c with
  |true=>exact Vs (hb H0 av A σ H' δ (E.mono s) d e _ λv2 H2 s2 r2=>k v2 H2 (s.trans s2) r2)
  |false=>cases e;exact Vr (k _ H' s blq)
theorem Zh8{ta:TE}{qa:Ql}{a:Env->Option D}(ha:VE G ow ta qa a):VE G ow (Zhp ta) .cl (Vz a):=λH0 av A σ H δ E d e Q k=>by
 unfold Vz at e;cases he:a δ with
 |none=>rw [he]at e;cases e
 |some x=>
  rw [he]at e;cases x<;>first|(cases e;done)|skip
  cases e;exact ha H0 av A σ H δ E _ he _ λv H' s r=>⟨_,qbl r,k _ H' s blq⟩
def eIf(τ:Env->Option Bool)(a b:Env->Option D)(δ:Env):Option D:=match τ δ with
 |some true=>a δ
 |some false=>b δ
 |none=>none
theorem Zi7{t:TT}{ta tb:TE}{q:Ql}{τ:Env->Option Bool}{a b:Env->Option D}(ht:VT G ow t τ)(ha:VE G ow ta q a)(hb:VE G ow tb q b):VE G ow (tIf t ta tb) q (eIf τ a b):=λH0 av A σ H δ E d e Q k=>by
 unfold eIf at e;cases he:τ δ with
 |none=>rw [he]at e;cases e
 |some c=>
  rw [he]at e;refine ht H0 av A σ H δ E c he _ λH' s => ?_
  cases c with
  |true=>exact Vs (ha H0 av A σ H' δ (E.mono s) d e _ λv H2 s2 r=>k v H2 (s.trans s2) r)
  |false=>exact Vr (hb H0 av A σ H' δ (E.mono s) d e _ λv H2 s2 r=>k v H2 (s.trans s2) r)
def UO:D->Bool
 | .non=>true
 |_=>false
theorem Zde{av:Addr->Prop}{H:Hp}{d:D}{v:V}(h:Rep cA av H d v):decide (v = .non)=UO d:=by
 cases d with
 |non=>cases(show v=_ from h);rfl
 |bl b=>cases(show v=_ from h);rfl
 |int i=>cases(show v=_ from h);rfl
 |str cs=>cases(show v=_ from h);rfl
 |lst xs=>unfold Rep at h;obtain⟨a,vs,rfl,_⟩:=h;rfl
 |tup xs=>unfold Rep at h;obtain⟨a,vs,rfl,_⟩:=h;rfl
 |obj c ks xs=>unfold Rep at h;obtain⟨a,dx,vs,rfl,_⟩:=h;rfl
 |dct ks xs=>unfold Rep at h;obtain⟨a,vs,rfl,_⟩:=h;rfl
 |dtt ks xs=>unfold Rep at h;obtain⟨a,vs,rfl,_⟩:=h;rfl
def Y9(a:Env->Option D)(δ:Env):Option D:=match a δ with
 |some d=>some (.bl (UO d))
 |none=>none
def Xa(a:Env->Option D)(δ:Env):Option D:=match a δ with
 |some d=>some (.bl (!UO d))
 |none=>none
theorem JZ{ta:TE}{qa:Ql}{a:Env->Option D}(ha:VE G ow ta qa a):VE G ow (ZjX ta) .cl (Y9 a):=λH0 av A σ H δ E d e Q k=>by
 unfold Y9 at e;cases he:a δ with
 |none=>rw [he]at e;cases e
 |some x=>
  rw [he]at e;cases e;refine ha H0 av A σ H δ E _ he _ λv H' s r => ?_
  rw [Zde r.any];exact k _ H' s blq
theorem J0{ta:TE}{qa:Ql}{a:Env->Option D}(ha:VE G ow ta qa a):VE G ow (Zhn ta) .cl (Xa a):=λH0 av A σ H δ E d e Q k=>by
 unfold Xa at e;cases he:a δ with
 |none=>rw [he]at e;cases e
 |some x=>
  rw [he]at e;cases e;refine ha H0 av A σ H δ E _ he _ λv H' s r => ?_
  rw [Zde r.any];exact k _ H' s blq
def Zfr(f g:D->D->Option D)(a b c:Env->Option D)(δ:Env):Option D:=match eOp f a b δ with
 |some (.bl true)=>eOp g b c δ
 |some (.bl false)=>some (.bl false)
 |_=>none
def Zkd:D->Option D
 | .int i=>some (.int (-i))
 |_=>none
def eUn(f:D->Option D)(a:Env->Option D)(δ:Env):Option D:=match a δ with
 |some x=>f x
 |none=>none
def eNil(_:Env):Option (List D):=some []
def Zb(a:Env->Option D)(r:Env->Option (List D))(δ:Env):Option (List D):=match a δ with
 |some x=>match r δ with
  |some xs=>some (x::xs)
  |none=>none
 |none=>none
theorem Zl{q:Ql}:VA G ow tNil q eNil:=λH0 av A σ H δ E ds e Q k=>by
 cases e;exact k [] H (Same.refl H) rfl
theorem Zh{te:TE}{ta:TA}{q:Ql}{a:Env->Option D}{r:Env->Option (List D)}(ha:VE G ow te q a)(hr:VA G ow ta q r):VA G ow (Z0 te ta) q (Zb a r):=λH0 av A σ H δ E ds e Q k=>by
 unfold Zb at e;cases he:a δ with
 |none=>rw [he]at e;cases e
 |some x=>
  rw [he]at e;cases hr':r δ with
  |none=>rw [hr']at e;cases e
  |some xs=>
   rw [hr']at e;cases e;exact ha H0 av A σ H δ E x he _ λv H1 s1 r1=>hr H0 av A σ H1 δ (E.mono s1) xs hr' _ λvs H2 s2 r2=>k _ H2 (s1.trans s2) ⟨v,vs,rfl,r1.same s2,r2⟩
theorem RepQL.length{av:Addr->Prop}{A:Nat->Option Addr}{H:Hp}{q:Ql}{xs:List D}{vs:List V}(h:RepQL cA av A H q xs vs):xs.length=vs.length:=h.any.length
def ZM(α:Env->Option (List D))(δ:Env):Option D:=match α δ with
 |some xs=>if xs.length<=sizeLine then some (.lst xs)else none
 |none=>none
theorem XN{t:TA}{α:Env->Option (List D)}(h:VA G ow t .cl α):VF G ow (Vq t) (ZM α):=λH0 av A σ H δ E d e Q k=>by
 unfold ZM at e;cases he:α δ with
 |none=>rw [he]at e;cases e
 |some xs=>
  rw [he]at e
  by_cases hz:xs.length<=sizeLine
  · have e':D.lst xs=d:=by simpa [hz]using e
    exact h H0 av A σ H δ E xs he _ λvs H1 s1 r1=>⟨by rw [<-r1.length];exact hz,λp hp=>k p vs xs H1 s1 hp r1.cl e'.symm⟩
  · simp [hz]at e
def YM(α:Env->Option (List D))(δ:Env):Option D:=match α δ with
 |some xs=>if xs.length<=sizeLine then some (.tup xs)else none
 |none=>none
theorem J5{t:TA}{α:Env->Option (List D)}(h:VA G ow t .cl α):VE G ow (Zj4 t) .cl (YM α):=λH0 av A σ H δ E d e Q k=>by
 unfold YM at e;cases he:α δ with
 |none=>rw [he]at e;cases e
 |some xs=>
  rw [he]at e
  by_cases hz:xs.length<=sizeLine
  · have e':D.tup xs=d:=by simpa [hz]using e
    subst e';refine h H0 av A σ H δ E xs he _ λvs H1 s1 r1=>⟨by rw [<-r1.length];exact hz,λp hp=>k _ _ (s1.trans (Yh hp)) ⟨p,vs,rfl,λz=>(E.mono s1).avl p z hp,Zm,r1.cl.same (Yh hp)⟩⟩
  · simp [hz]at e
def Ua(cA:Kn)(i:Addr->Prop)(H:Hp):List D->List V->Prop
 | [],vs=>vs=[]
 |x::xs,vs=>∃v r,vs=v::r/\(∃t,RepT cA t i H x v)/\Ua cA i H xs r
theorem RepQL.il{av:Addr->Prop}{A:Nat->Option Addr}{H:Hp}{q:Ql}:∀{xs:List D}{vs:List V},RepQL cA av A H q xs vs->Ua cA (q.iv av A) H xs vs
 | [],_,h=>h
 |x::xs,vs,h=>by
  obtain⟨v,r,e,h1,h2⟩:=h;exact⟨v,r,e,⟨_,h1.tp⟩,RepQL.il h2⟩
def QH(cA:Kn)(r:List V->Hp->VK->Prop)(f:List D->Option D):Prop:=
 ∀(i:Addr->Prop)(H:Hp)(ds:List D)(vs:List V)(d:D),(∀a,i a->H a≠none)->Ua cA i H ds vs->f ds=some d->∀Q:VK,(∀v H',Same H H'->Rep cA i H' d v->Q v H')->r vs H Q
def eCB(f:List D->Option D)(α:Env->Option (List D))(δ:Env):Option D:=match α δ with
 |some ds=>f ds
 |none=>none
theorem Z2{r:List V->Hp->VK->Prop}{f:List D->Option D}{t:TA}{q:Ql}{α:Env->Option (List D)}(hr:QH G.1 r f)(h:VA G ow t q α):VE G ow (tCB r t) q.it (eCB f α):=λH0 av A σ H δ E d e Q k=>by
 unfold eCB at e;cases he:α δ with
 |none=>rw [he]at e;cases e
 |some ds=>
  rw [he]at e;refine h H0 av A σ H δ E ds he _ λvs H1 s1 r1 => ?_
  have E1:=E.mono s1;cases q with
  |cl=>exact hr _ H1 ds vs d E1.avl r1.il e _ λv H' s r=>k v H' (s1.trans s) r.t
  |tp=>exact hr _ H1 ds vs d E1.avl r1.il e _ λv H' s r=>k v H' (s1.trans s) r.t
  |dt=>exact hr _ H1 ds vs d E1.avH r1.il e _ λv H' s r=>k v H' (s1.trans s) r.t
theorem il1{i:Addr->Prop}{H:Hp}{x:D}{vs:List V}(h:Ua cA i H [x] vs):∃v t,vs=[v]/\RepT cA t i H x v:=by
 obtain⟨v,r,rfl,⟨t,h1⟩,h2⟩:=h;cases(show r=[]from h2);exact⟨v,t,rfl,h1⟩
def lenD:List D->Option D
 | [.str a]=>if a.length<=sizeLine then some (.int a.length)else none
 | [.lst xs]=>some (.int xs.length)
 | [.tup xs]=>some (.int xs.length)
 |_=>none
theorem Z5:QH cA (UD cA.K) lenD:=λi H ds vs d _ h e Q k=>by
 cases ds with
 |nil=>cases e
 |cons x r=>
  cases r with
  |cons _ _=>cases x<;>cases e
  |nil=>
   obtain⟨v,t,rfl,hx⟩:=il1 h;cases x<;>first|(cases e;done)|skip
   · rename_i a
     dsimp only [lenD]at e
     by_cases hz:a.length<=sizeLine
     · rw [if_pos hz]at e
       cases e;exact .inl ⟨a,by rw [show v=S a from hx],hz,k _ H (Same.refl H) rfl⟩
     · rw [if_neg hz]at e;cases e
   · obtain⟨a,ws,rfl,_,rd,l⟩:=hx
     cases e;exact .inr ⟨a,ws,rfl,.inl rd,k _ H (Same.refl H) (by rw [l.length];rfl)⟩
   · obtain⟨a,ws,rfl,_,rd,l⟩:=hx
     cases e;exact .inr ⟨a,ws,rfl,.inr (SqT.of rd),k _ H (Same.refl H) (by rw [l.length];rfl)⟩
def Zke:List D->Option D
 | [.int i,.int j]=>some (.int (if j<i then j else i))
 |_=>none
def Zkf:List D->Option D
 | [.int i,.int j]=>some (.int (if j>i then j else i))
 |_=>none
def intD:List D->Option D
 | [.str a]=>if a.length<=640/\a≠[]/\a.all Qq=true then some (.int (JS a:Nat))else none
 | [.bl b]=>some (.int (if b then 1 else 0))
 |_=>none
theorem Zh9:QH cA rIntX intD:=λi H ds vs d _ h e Q k=>by
 unfold intD at e
 split at e
 · rename_i a
   obtain⟨v,t,rfl,hx⟩:=il1 h;cases(show v=_ from hx)
   by_cases hz:a.length<=640/\a≠[]/\a.all Qq=true
   · rw [if_pos hz]at e
     cases e;exact .inl ⟨a,rfl,hz.1,hz.2.1,hz.2.2,k _ H (Same.refl H) rfl⟩
   · rw [if_neg hz]at e;cases e
 · rename_i b
   obtain⟨v,t,rfl,hx⟩:=il1 h;cases(show v=_ from hx);cases e;exact .inr ⟨b,rfl,k _ H (Same.refl H) rfl⟩
 · cases e
def Yi:List D->Option D
 | [.lst xs]=>some (.tup xs)
 | [.tup xs]=>some (.tup xs)
 |_=>none
def Zhx:List D->Option D
 | [.lst xs]=>some (.lst xs)
 | [.tup xs]=>some (.lst xs)
 |_=>none
theorem Ub{t:TA}{α:Env->Option (List D)}(h:VA G ow t .cl α):VE G ow (tCB (Zfm G.1.K) t) .cl (eCB Yi α):=λH0 av A σ H δ E d e Q k=>by
 unfold eCB at e;cases he:α δ with
 |none=>rw [he]at e;cases e
 |some ds=>
  rw [he]at e;refine h H0 av A σ H δ E ds he _ λvs H1 s1 r1 => ?_
  have E1:=E.mono s1;have e:Yi ds=some d:=e;unfold Yi at e
  split at e
  · rename_i xs
    cases e;obtain⟨v,r,rfl,⟨a,ws,rfl,_,rd,l⟩,h2⟩:=r1;cases(show r=[]from h2);exact⟨a,ws,rfl,.inl ⟨rd,λp hp=>k _ _ (s1.trans (Yh hp)) ⟨p,ws,rfl,λz=>E1.avl p z hp,Zm,l.same (Yh hp)⟩⟩⟩
  · rename_i xs
    cases e;obtain⟨v,r,rfl,⟨a,ws,rfl,na,rd,l⟩,h2⟩:=r1;cases(show r=[]from h2);exact⟨a,ws,rfl,.inr ⟨SqT.of rd,k _ H1 s1 ⟨a,ws,rfl,na,rd,l⟩⟩⟩
  · cases e
end
end DL
namespace DL
open PySem PySem.Spec L2
inductive Out where
 |nx (δ:Env)
 |rt (d:D)
 |bk (δ:Env)
 |ct (δ:Env)
def Wants(G:Cn)(owN owB owC:List Nat)(H0:Hp)(av:Addr->Prop)(De:Ends):Out->Prop
 | .nx δ'=>∀A' σ' H',ER G owN H0 av A' σ' H' δ'->De.nx σ' H'
 | .rt d=>∀v H',Same H0 H'->Rep G.1 av H' d v->De.rt v H'
 | .bk δ'=>∀A' σ' H',ER G owB H0 av A' σ' H' δ'->De.bk σ' H'
 | .ct δ'=>∀A' σ' H',ER G owC H0 av A' σ' H' δ'->De.ct σ' H'
def VS(G:Cn)(ow owN owB owC:List Nat)(ts:TS)(φ:Env->Option Out):Prop:=
 ∀H0 av A σ H δ,ER G ow H0 av A σ H δ->∀o,φ δ=some o->∀De:Ends,Wants G owN owB owC H0 av De o->ts De σ H
def VG(G:Cn)(ow ow':List Nat)(g:TG)(γ:D->Env->Option Env):Prop:=
 ∀H0 av A σ H δ,ER G ow H0 av A σ H δ->∀d v,Rep G.1 (AV av A) H d v->∀δ',γ d δ=some δ'->∀Q:L2.St->Hp->Prop,(∀A' σ' H',Same H H'->ER G ow' H0 av A' σ' H' δ'->Q σ' H')->g v σ H Q
def sub(a b:List Nat):Bool:=a.all λx=>b.contains x
theorem QI{a b:List Nat}(h:sub a b=true):∀x∈a,x∈b:=λx hx=>by
 have:=List.all_eq_true.mp h x hx;simpa using this
section
variable{cA:Kn}{G:Cn}{ow owN owB owC ow1 ow2:List Nat}{H0 H H':Hp}{av:Addr->Prop}{A:Nat->Option Addr}{σ:L2.St}{δ:Env}
theorem UP{α:Type}{l:List (Option α)}{i j:Nat}{x y:α}(h:(l.set i (some x))[j]? = some (some y)):(j=i/\y=x/\i<l.length)\/(j≠i/\l[j]? = some (some y)):=by
 by_cases e:j=i
 · subst e
   by_cases hl:j<l.length
   · rw [List.getElem?_set_self hl]at h
     exact .inl ⟨rfl,(Option.some.inj (Option.some.inj h)).symm,hl⟩
   · rw [List.getElem?_eq_none (by simpa using hl)]at h
     cases h
 · rw [List.getElem?_set_ne (Ne.symm e)]at h
   exact .inr ⟨e,h⟩
theorem ER.set{i:Nat}{d:D}{v:V}(E:ER G ow H0 av A σ H δ)(h:Rep G.1 (AV av A) H d v)(hw:∀j,j∈ow1 ↔ j∈ow/\j≠i)(hn:G.2 i=none) :
 ER G ow1 H0 av (λj=>if j=i then none else A j) (σ.set i (some v)) H (δ.set i (some d)):=by
 have less:∀b,AV av (λj=>if j=i then none else A j) b->AV av A b:=λb z=>by
  rcases z with z|⟨j,z⟩
  · exact .inl z
  · by_cases e:j=i
    · simp [e]at z
    · simp [e]at z;exact .inr ⟨j,z⟩
 refine⟨E.same,E.avd,λj a e => ?_,λj k a e1 e2 => ?_,λj a e => ?_,λj e => ?_,λj hj => ?_,by simp [E.len],λj a e=>(by
  have q:j≠i:=λz=>by rw [z,hn]at e;cases e
  simp only [q,if_false];exact E.pin j a e),(λj v' e=>by
  have q:j≠i:=λz=>by rw [z,hn]at e;cases e
  rw [List.getElem?_set_ne (Ne.symm q)];exact E.kept j v' e),λj d' e => ?_⟩
 · by_cases q:j=i
   · simp [q]at e
   · simp [q]at e;exact E.fr j a e
 · by_cases q:j=i
   · simp [q]at e1
   · by_cases q2:k=i
     · simp [q2]at e2
     · simp [q]at e1;simp [q2]at e2;exact E.inj j k a e1 e2
 · by_cases q:j=i
   · simp [q]at e
   · simp [q]at e;exact E.live j a e
 · by_cases q:j=i
   · simp [q]at e
   · simp [q]at e;exact(hw j).mpr ⟨E.dom j e,q⟩
 · obtain⟨h1,h2⟩:=(hw j).mp hj
   simp [h2];exact E.dom' j h1
 · rcases UP e with⟨rfl,rfl,hl⟩|⟨q,e'⟩
   · refine⟨v,?_,λ_=>h.av λb z => .inl (less b z),λa z=>by simp at z⟩
     rw [List.getElem?_set_self (by rw [E.len];exact hl)]
   · obtain⟨v',h1,h2,h3⟩:=E.var j d' e'
     refine⟨v',by rw [List.getElem?_set_ne (Ne.symm q)];exact h1,λz => ?_,λa z => ?_⟩
     · simp [q]at z
       exact(h2 z).av λb z => .inl (less b z)
     · simp [q]at z
       obtain⟨r1,r2⟩:=h3 a z;refine⟨r1,?_⟩;cases d' with
       |lst xs=>obtain⟨vs,q1,q2⟩:=r2;exact⟨vs,q1,q2.av λb z => .inl (less b z)⟩
       |obj c ks xs=>obtain⟨dx,vs,q1,q0,q2⟩:=r2;exact⟨dx,vs,q1,q0,q2.av λb z => .inl (less b z)⟩
       |dct ks xs=>obtain⟨vs,q1,q0,q2⟩:=r2;exact⟨vs,q1,q0,q2.av λb z => .inl (less b z)⟩
       |dtt ks xs=>obtain⟨vs,q1,q0,q2⟩:=r2;exact⟨vs,q1,q0,q2.av λb z => .inl (less b z)⟩
       |_=>exact r2
theorem ER.own{i:Nat}{xs:List D}{vs:List V}{p:Addr}(E:ER G ow H0 av A σ H δ)(hp:H p=none)(l:RepL G.1 (AV av A) H xs vs)(hw:∀j,j∈ow1 ↔ j∈ow\/j=i)(hn:G.2 i=none) :
 ER G ow1 H0 av (λj=>if j=i then some p else A j) (σ.set i (some (.ref p))) (upd H p (.lst vs)) (δ.set i (some (.lst xs))):=by
 have hs:Same H (upd H p (.lst vs)):=Yh hp
 have less:∀b,AV av (λj=>if j=i then some p else A j) b->AV av A b\/H b=none:=λb z=>by
  rcases z with z|⟨j,z⟩
  · exact .inl (.inl z)
  · by_cases e:j=i
    · simp [e]at z;subst z;exact .inr hp
    · simp [e]at z;exact .inl (.inr ⟨j,z⟩)
 have np:∀j a,A j=some a->a≠p:=λj a e z=>by subst z;exact E.live j a e hp
 have h0:H0 p=none:=by
  cases q:H0 p with
  |none=>rfl
  |some o=>rw [E.same p o q]at hp;cases hp
 refine⟨E.same.trans hs,E.avd,λj a e => ?_,λj k a e1 e2 => ?_,λj a e => ?_,λj e => ?_,λj hj => ?_,by simp [E.len],λj a e=>(by
  have q:j≠i:=λz=>by rw [z,hn]at e;cases e
  simp only [q,if_false];exact E.pin j a e),(λj v' e=>by
  have q:j≠i:=λz=>by rw [z,hn]at e;cases e
  rw [List.getElem?_set_ne (Ne.symm q)];exact E.kept j v' e),λj d' e => ?_⟩
 · by_cases q:j=i
   · simp [q]at e;subst e;exact h0
   · simp [q]at e;exact E.fr j a e
 · by_cases q:j=i
   · by_cases q2:k=i
     · rw [q,q2]
     · simp [q]at e1;simp [q2]at e2
       exact absurd e1.symm (np k a e2)
   · by_cases q2:k=i
     · simp [q]at e1;simp [q2]at e2
       exact absurd e2.symm (np j a e1)
     · simp [q]at e1;simp [q2]at e2;exact E.inj j k a e1 e2
 · by_cases q:j=i
   · simp [q]at e;subst e;rw [Zm];exact λz=>by cases z
   · simp [q]at e
     rw [Zc (np j a e)];exact E.live j a e
 · by_cases q:j=i
   · exact(hw j).mpr (.inr q)
   · simp [q]at e;exact(hw j).mpr (.inl (E.dom j e))
 · by_cases q:j=i
   · simp [q]
   · simp [q]
     exact E.dom' j (((hw j).mp hj).resolve_right q)
 · rcases UP e with⟨rfl,rfl,hl⟩|⟨q,e'⟩
   · refine⟨.ref p,?_,λz=>by simp at z,λa z => ?_⟩
     · rw [List.getElem?_set_self (by rw [E.len];exact hl)]
     · simp at z
       subst z;exact⟨rfl,vs,Zm,(l.av less).same hs⟩
   · obtain⟨v',h1,h2,h3⟩:=E.var j d' e'
     refine⟨v',by rw [List.getElem?_set_ne (Ne.symm q)];exact h1,λz => ?_,λa z => ?_⟩
     · simp [q]at z
       exact((h2 z).av less).same hs
     · simp [q]at z
       obtain⟨r1,r2⟩:=h3 a z;refine⟨r1,?_⟩;cases d' with
       |lst xs=>obtain⟨vs',q1,q2⟩:=r2;exact⟨vs',hs _ _ q1,(q2.av less).same hs⟩
       |obj c ks xs=>obtain⟨dx,vs',q1,q0,q2⟩:=r2;exact⟨dx,vs',hs _ _ q1,q0,(q2.av less).same hs⟩
       |dct ks xs=>obtain⟨vs',q1,q0,q2⟩:=r2;exact⟨vs',hs _ _ q1,q0,(q2.av less).same hs⟩
       |dtt ks xs=>obtain⟨vs',q1,q0,q2⟩:=r2;exact⟨vs',hs _ _ q1,q0,(q2.av less).same hs⟩
       |_=>exact r2
theorem ER.put{i:Nat}{a:Addr}{d d':D}(E:ER G ow H0 av A σ H δ)(hi:A i=some a)(hd:δ[i]? = some (some d))(hk:∀b o,b≠a->H b=some o->H' b=some o)(hl:H' a≠none)(ho:Own G.1 (AV av A) H' d' a) :
 ER G ow H0 av A σ H' (δ.set i (some d')):=by
 have kk:∀b o,¬AV av A b->H b=some o->H' b=some o:=λb o n e=>hk b o (λz=>n (.inr ⟨i,by rw [z];exact hi⟩)) e
 refine⟨λb o e=>hk b o (λz => ?_) (E.same b o e),E.avd,E.fr,E.inj,λj b e => ?_,E.dom,E.dom',by simp [E.len],E.pin,E.kept,λj d'' e => ?_⟩
 · rw [z,E.fr i a hi]at e;cases e
 · by_cases q:b=a
   · subst q;exact hl
   · have:=E.live j b e
     cases e':H b with
     |none=>exact absurd e' this
     |some o=>rw [hk b o q e'];exact λz=>by cases z
 · rcases UP e with⟨rfl,rfl,hl'⟩|⟨q,e'⟩
   · obtain⟨v,h1,_,h3⟩:=E.var j d hd
     obtain⟨r1,_⟩:=h3 a hi
     exact⟨v,h1,λz=>(by rw [hi]at z;cases z),λb z=>by
      rw [hi]at z;cases z;exact⟨r1,ho⟩⟩
   · obtain⟨v',h1,h2,h3⟩:=E.var j d'' e'
     refine⟨v',h1,λz=>(h2 z).ext kk,λb z => ?_⟩;obtain⟨r1,r2⟩:=h3 b z;have nb:b≠a:=λw=>q (E.inj j i a (by rw [<-w];exact z) hi)
     refine⟨r1,?_⟩;cases d'' with
     |lst xs=>obtain⟨vs,q1,q2⟩:=r2;exact⟨vs,hk _ _ nb q1,q2.ext kk⟩
     |obj c ks xs=>obtain⟨dx,vs,q1,q0,q2⟩:=r2;exact⟨dx,vs,hk _ _ nb q1,q0,q2.ext kk⟩
     |dct ks xs=>obtain⟨vs,q1,q0,q2⟩:=r2;exact⟨vs,hk _ _ nb q1,q0,q2.ext kk⟩
     |dtt ks xs=>obtain⟨vs,q1,q0,q2⟩:=r2;exact⟨vs,hk _ _ nb q1,q0,q2.ext kk⟩
     |_=>exact r2
theorem ER.freeze(i:Nat)(E:ER G ow H0 av A σ H δ)(hw:∀j,j∈ow1 ↔ j∈ow/\j≠i)(hn:G.2 i=none):ER G ow1 H0 av (λj=>if j=i then none else A j) σ H δ:=by
 have less:∀b,AV av (λj=>if j=i then none else A j) b->AV av A b:=λb z=>by
  rcases z with z|⟨j,z⟩
  · exact .inl z
  · by_cases e:j=i
    · simp [e]at z
    · simp [e]at z;exact .inr ⟨j,z⟩
 refine⟨E.same,E.avd,λj a e => ?_,λj k a e1 e2 => ?_,λj a e => ?_,λj e => ?_,λj hj => ?_,E.len,λj a e=>(by
  have q:j≠i:=λz=>by rw [z,hn]at e;cases e
  simp only [q,if_false];exact E.pin j a e),E.kept,λj d' e => ?_⟩
 · by_cases q:j=i
   · simp [q]at e
   · simp [q]at e;exact E.fr j a e
 · by_cases q:j=i
   · simp [q]at e1
   · by_cases q2:k=i
     · simp [q2]at e2
     · simp [q]at e1;simp [q2]at e2;exact E.inj j k a e1 e2
 · by_cases q:j=i
   · simp [q]at e
   · simp [q]at e;exact E.live j a e
 · by_cases q:j=i
   · simp [q]at e
   · simp [q]at e;exact(hw j).mpr ⟨E.dom j e,q⟩
 · obtain⟨h1,h2⟩:=(hw j).mp hj
   simp [h2];exact E.dom' j h1
 · obtain⟨v',h1,h2,h3⟩:=E.var j d' e
   refine⟨v',h1,λz => ?_,λa z => ?_⟩
   · by_cases q:j=i
     · subst q
       cases hA:A j with
       |none=>exact(h2 hA).av λb z => .inl (less b z)
       |some a=>
        obtain⟨rfl,r2⟩:=h3 a hA
        have na:¬AV av (λk=>if k=j then none else A k) a:=λz=>by
         rcases z with z|⟨k,z⟩
         · exact E.avd a z (E.fr j a hA)
         · by_cases qk:k=j
           · simp [qk]at z
           · simp [qk]at z;exact qk (E.inj k j a z hA)
        cases d' with
        |lst xs=>obtain⟨vs,q1,q2⟩:=r2;unfold Rep;exact⟨a,vs,rfl,λz=>(na z).elim,SqL.of q1,q2.av λb z => .inl (less b z)⟩
        |obj c ks xs=>obtain⟨dx,vs,q1,q0,q2⟩:=r2;unfold Rep;exact⟨a,dx,vs,rfl,na,q1,q0,q2.av λb z => .inl (less b z)⟩
        |dct ks xs=>obtain⟨vs,q1,q0,q2⟩:=r2;unfold Rep;exact⟨a,vs,rfl,na,q1,q0,q2.av λb z => .inl (less b z)⟩
        |dtt ks xs=>obtain⟨vs,q1,q0,q2⟩:=r2;unfold Rep;exact⟨a,vs,rfl,na,q1,q0,q2.av λb z => .inl (less b z)⟩
        |_=>exact False.elim r2
     · simp [q]at z
       exact(h2 z).av λb z => .inl (less b z)
   · by_cases q:j=i
     · simp [q]at z
     · simp [q]at z
       obtain⟨r1,r2⟩:=h3 a z;refine⟨r1,?_⟩;cases d' with
       |lst xs=>obtain⟨vs,q1,q2⟩:=r2;exact⟨vs,q1,q2.av λb z => .inl (less b z)⟩
       |obj c ks xs=>obtain⟨dx,vs,q1,q0,q2⟩:=r2;exact⟨dx,vs,q1,q0,q2.av λb z => .inl (less b z)⟩
       |dct ks xs=>obtain⟨vs,q1,q0,q2⟩:=r2;exact⟨vs,q1,q0,q2.av λb z => .inl (less b z)⟩
       |dtt ks xs=>obtain⟨vs,q1,q0,q2⟩:=r2;exact⟨vs,q1,q0,q2.av λb z => .inl (less b z)⟩
       |_=>exact r2
open Classical in
noncomputable def cut(A:Nat->Option Addr)(H:Hp):Hp:=λb=>if ∃i,A i=some b then none else H b
theorem Zb0{b:Addr}{o:HO}(h:cut A H b=some o):H b=some o/\¬∃i,A i=some b:=by
 unfold cut at h
 by_cases e:∃i,A i=some b
 · rw [if_pos e]at h;cases h
 · rw [if_neg e]at h;exact⟨h,e⟩
theorem Uc{b:Addr}(e:¬∃i,A i=some b):cut A H b=H b:=by
 unfold cut;rw [if_neg e]
theorem ER.cut(E:ER G ow H0 av A σ H δ):ER G ow (DL.cut A H) av A σ H δ:=by
 refine⟨λb o e=>(Zb0 e).1,λa z => ?_,λi a e => ?_,E.inj,E.live,E.dom,E.dom',E.len,E.pin,E.kept,E.var⟩
 · rw [Uc λ⟨i,e⟩=>E.avd a z (E.fr i a e)]
   exact E.avH a z
 · unfold DL.cut
   rw [if_pos ⟨i,e⟩]
theorem ER.sub0(E:ER G ow H0 av A σ H δ):Same H0 (DL.cut A H):=λb o e=>by
 rw [Uc λ⟨i,z⟩=>by rw [E.fr i b z]at e;cases e];exact E.same b o e
theorem ER.uncut{A':Nat->Option Addr}{σ':L2.St}{δ':Env}(E:ER G ow H0 av A σ H δ)(E':ER G ow1 (DL.cut A H) av A' σ' H' δ'):ER G ow1 H0 av A' σ' H' δ':=
 ⟨E.sub0.trans E'.same,E.avd,λi a e=>E.sub0.free (E'.fr i a e),E'.inj,E'.live,E'.dom,E'.dom',E'.len,E'.pin,E'.kept,E'.var⟩
def sNext(δ:Env):Option Out:=some (.nx δ)
theorem Xo:VS G ow ow owB owC tNext sNext:=λH0 av A σ H δ E o e De k=>by
 cases e;exact k A σ H E
def Ze(φ ψ:Env->Option Out)(δ:Env):Option Out:=match φ δ with
 |some (.nx δ')=>ψ δ'
 |r=>r
theorem ZA{t u:TS}{φ ψ:Env->Option Out}(h1:VS G ow ow1 owB owC t φ)(h2:VS G ow1 owN owB owC u ψ):VS G ow owN owB owC (ZS t u) (Ze φ ψ):=λH0 av A σ H δ E o e De k=>by
 unfold Ze at e;cases he:φ δ with
 |none=>rw [he]at e;cases e
 |some o1=>
  rw [he]at e;refine h1 H0 av A σ H δ E o1 he _ ?_;cases o1 with
  |nx δ'=>exact λA' σ' H' E'=>h2 H0 av A' σ' H' δ' E' o e De k
  |rt d=>cases e;exact k
  |bk δ'=>cases e;exact k
  |ct δ'=>cases e;exact k
def sIf(τ:Env->Option Bool)(φ ψ:Env->Option Out)(δ:Env):Option Out:=match τ δ with
 |some true=>φ δ
 |some false=>ψ δ
 |none=>none
theorem Xp{c:TT}{t u:TS}{τ:Env->Option Bool}{φ ψ:Env->Option Out}(hc:VT G ow c τ)(h1:VS G ow owN owB owC t φ)(h2:VS G ow owN owB owC u ψ):VS G ow owN owB owC (Qd c t u) (sIf τ φ ψ):=λH0 av A σ H δ E o e De k=>by
 unfold sIf at e;cases he:τ δ with
 |none=>rw [he]at e;cases e
 |some b=>
  rw [he]at e;refine hc H0 av A σ H δ E b he _ λH' s => ?_
  cases b with
  |true=>exact Vs (h1 H0 av A σ H' δ (E.mono s) o e De k)
  |false=>exact Vr (h2 H0 av A σ H' δ (E.mono s) o e De k)
def ZD(ε:Env->Option D)(δ:Env):Option Out:=match ε δ with
 |some d=>some (.rt d)
 |none=>none
theorem Yv{te:TE}{q:Ql}{ε:Env->Option D}(h:VE G ow te q ε):VS G ow owN owB owC (V1 te) (ZD ε):=λH0 av A σ H δ E o e De k=>by
 unfold ZD at e;cases he:ε δ with
 |none=>rw [he]at e;cases e
 |some d=>
  rw [he]at e;cases e;exact h H0 av A σ H δ E d he _ λv H' s r=>k v H' (E.same.trans s) r.any
def Zhy(_:Env):Option Out:=some (.rt .non)
def Zfs(_:Env):Option Out:=none
def Zi(i:Nat)(ε:Env->Option D)(δ:Env):Option Out:=match ε δ with
 |some d=>some (.nx (δ.set i (some d)))
 |none=>none
theorem UQ{i:Nat}(h1:sub ow1 ow=true)(h2:ow1.contains i=false)(h3:sub ow (i::ow1)=true):∀j,j∈ow1 ↔ j∈ow/\j≠i:=λj=>by
 constructor
 · intro h
   refine⟨QI h1 j h,λe => ?_⟩;subst e;have:j∉ow1:=by simpa using h2
   exact this h
 · rintro⟨h,n⟩
   rcases List.mem_cons.mp (QI h3 j h)with e|e
   · exact absurd e n
   · exact e
theorem J6{i:Nat}(h1:sub ow1 (i::ow)=true)(h2:ow1.contains i=true)(h3:sub ow ow1=true):∀j,j∈ow1 ↔ j∈ow\/j=i:=λj=>by
 constructor
 · intro h
   rcases List.mem_cons.mp (QI h1 j h)with e|e
   · exact .inr e
   · exact .inl e
 · rintro(h|rfl)
   · exact QI h3 j h
   · simpa using h2
theorem Z8{te:TE}{ε:Env->Option D}(i:Nat)(h:VE G ow te .cl ε)(hn:G.2 i=none:=by rfl)(h1:sub owN ow=true:=by rfl)(h2:owN.contains i=false:=by rfl)(h3:sub ow (i::owN)=true:=by rfl):VS G ow owN owB owC (ZV te (ZG i)) (Zi i ε):=λH0 av A σ H δ E o e De k=>by
 unfold Zi at e;cases he:ε δ with
 |none=>rw [he]at e;cases e
 |some d=>
  rw [he]at e;cases e;exact h H0 av A σ H δ E d he _ λv H' s r=>k _ _ H' ((E.mono s).set (RepT.r r) (UQ h1 h2 h3) hn)
theorem VB{te:TE}{ε:Env->Option D}(i:Nat)(h:VF G ow te ε)(hn:G.2 i=none:=by rfl)(h1:sub owN (i::ow)=true:=by rfl)(h2:owN.contains i=true:=by rfl)(h3:sub ow owN=true:=by rfl):VS G ow owN owB owC (ZV te (ZG i)) (Zi i ε):=λH0 av A σ H δ E o e De k=>by
 unfold Zi at e;cases he:ε δ with
 |none=>rw [he]at e;cases e
 |some d=>
  rw [he]at e;cases e;refine h H0 av A σ H δ E d he _ λp vs xs H1 s hp l hd => ?_
  subst hd;exact k _ _ _ ((E.mono s).own hp l (J6 h1 h2 h3) hn)
def QJ(ε:Env->Option D)(δ:Env):Option Out:=match ε δ with
 |some _=>some (.nx δ)
 |none=>none
def Yj(i:Nat)(ε:Env->Option D)(δ:Env):Option Out:=match Za i δ with
 |some (.lst xs)=>match ε δ with
  |some d=>if xs.length<sizeLine then some (.nx (δ.set i (some (.lst (xs++[d])))))else none
  |none=>none
 |_=>none
theorem UR{K:PySem.W.Frag}{te:TE}{ε:Env->Option D}(i:Nat)(hi:ow.contains i=true)(h:VE G ow te .cl ε):VS G ow ow owB owC (X6 (tBM K "list" rAppend (Zq i) (Z0 te tNil))) (Yj i ε):=λH0 av A σ H δ E o e De k=>by
 unfold Yj at e;cases hv:Za i δ with
 |none=>rw [hv]at e;cases e
 |some x=>
  rw [hv]at e;cases x<;>first|(cases e;done)|skip
  rename_i xs;dsimp only at e;cases he:ε δ with
  |none=>rw [he]at e;cases e
  |some d=>
   rw [he]at e;dsimp only at e
   by_cases hz:xs.length<sizeLine
   · rw [if_pos hz]at e
     cases e;have hi':i∈ow:=by simpa using hi
     cases hA:A i with
     |none=>exact absurd hA (E.dom' i hi')
     |some a=>
      obtain⟨v,h1,_,h3⟩:=E.var i _ (ZT hv);obtain⟨rfl,vs,q1,q2⟩:=h3 a hA;refine⟨_,h1,.inl ⟨rfl,vs,SqL.of q1⟩,h H0 av A σ H δ E d he _ λv H' s r => ?_⟩;have E':=E.mono s;have q1':=s _ _ q1;refine⟨a,vs,v,rfl,rfl,q1',by rw [<-q2.length];exact hz,k A σ _ (E'.put hA (ZT hv) (λb o hb e=>by rw [Zc hb];exact e) (by rw [Zm];exact λz=>by cases z) ⟨_,Zm,?_⟩)⟩
      have ex:∀b o,¬AV av A b->H' b=some o->upd H' a (.lst (vs++[v])) b=some o:=λb o n e=>by
       rw [Zc λz=>n (.inr ⟨i,by rw [z];exact hA⟩)];exact e
      exact((q2.same s).append (.cons (RepT.r r) .nil)).ext ex
   · rw [if_neg hz]at e;cases e
theorem VS.frz{t:TS}{φ:Env->Option Out}(i:Nat)(h:VS G ow1 owN owB owC t φ)(hn:G.2 i=none:=by rfl)(h1:sub ow1 ow=true:=by rfl)(h2:ow1.contains i=false:=by rfl)(h3:sub ow (i::ow1)=true:=by rfl):VS G ow owN owB owC t φ:=λH0 av A σ H δ E o e De k=>
 h H0 av _ σ H δ (E.freeze i (UQ h1 h2 h3) hn) o e De k
def Zp(i:Nat)(d:D)(δ:Env):Option Env:=some (δ.set i (some d))
theorem Yw(i:Nat)(hi:ow.contains i=false:=by rfl)(hn:G.2 i=none:=by rfl):VG G ow ow (ZG i) (Zp i):=λH0 av A σ H δ E d v r δ' e Q k=>by
 cases e
 exact k _ _ H (Same.refl H) (E.set r (λj=>by
  have:i∉ow:=by simpa using hi
  exact⟨λh=>⟨h,λz=>this (z▸h)⟩,λh=>h.1⟩) hn)
def VGs(G:Cn)(ow ow':List Nat)(g:TGs)(γ:List D->Env->Option Env):Prop:=
 ∀H0 av A σ H δ,ER G ow H0 av A σ H δ->∀ds vs,RepL G.1 (AV av A) H ds vs->∀δ',γ ds δ=some δ'->∀Q:L2.St->Hp->Prop,(∀A' σ' H',Same H H'->(∀b,AV av A' b->AV av A b)->ER G ow' H0 av A' σ' H' δ'->Q σ' H')->g vs σ H Q
def gsNil(ds:List D)(δ:Env):Option Env:=match ds with
 | []=>some δ
 |_=>none
theorem Zgk:VGs G ow ow gNil gsNil:=λH0 av A σ H δ E ds vs r δ' e Q k=>by
 cases ds with
 |nil=>cases e;exact⟨r.nil_of,k A σ H (Same.refl H) (λ_ z=>z) E⟩
 |cons _ _=>cases e
def Xb(i:Nat)(γs:List D->Env->Option Env)(ds:List D)(δ:Env):Option Env:=match ds with
 |d::r=>γs r (δ.set i (some d))
 | []=>none
theorem Zb1{gs:TGs}{γs:List D->Env->Option Env}(i:Nat)(hi:ow.contains i=false)(hn:G.2 i=none)(h:VGs G ow ow gs γs):VGs G ow ow (Qe (ZG i) gs) (Xb i γs):=λH0 av A σ H δ E ds vs r δ' e Q k=>by
 cases ds with
 |nil=>cases e
 |cons d ds=>
  obtain⟨v,vr,rfl,r1,r2⟩:=r.uncons;refine⟨v,vr,rfl,?_⟩
  have less:∀b,AV av (λj=>if j=i then none else A j) b->AV av A b:=λb z=>by
   rcases z with z|⟨j,z⟩
   · exact .inl z
   · by_cases e:j=i
     · simp [e]at z
     · simp [e]at z;exact .inr ⟨j,z⟩
  have E1:ER G ow H0 av (λj=>if j=i then none else A j) (σ.set i (some v)) H (δ.set i (some d)):=E.set r1 (λj=>by
   have:i∉ow:=by simpa using hi
   exact⟨λh=>⟨h,λz=>this (z▸h)⟩,λh=>h.1⟩) hn
  exact h H0 av _ _ H _ E1 ds vr (r2.av λb z => .inl (less b z)) δ' e Q λA' σ' H' s l E'=>k A' σ' H' s (λb z=>less b (l b z)) E'
def Vc(n:Nat)(γs:List D->Env->Option Env)(d:D)(δ:Env):Option Env:=match d with
 | .tup ds=>if ds.length=n then γs ds δ else none
 |_=>none
def Ud(cA:Kn)(iv:Addr->Prop)(J:It)(xs:List D)(H0:Hp):Prop:=∀H,Same H0 H ->
 (∀i,i<xs.length->J.go i H) /\
 (∀(i:Nat)x v H',xs[i]? = some x->J.yld i H v H'->Same H H'/\∀av':Addr->Prop,(∀b,av' b->H b≠none)->(∀b,av' b->iv b\/H0 b=none)->Rep cA av' H' x v) /\
 (∀i,xs.length<=i->J.stop i H)
def VI(G:Cn)(ow:List Nat)(wi:TI)(ι:Env->Option (List D)):Prop:=
 ∀H0 av A σ H δ,ER G ow H0 av A σ H δ->∀xs,ι δ=some xs->∀R:It->Hp->Prop,(∀J H1,Same H H1->Ud G.1 (AV av A) J xs (DL.cut A H1)->R J H1)->wi σ H R
def ZR(γ:D->Env->Option Env)(φ:Env->Option Out):List D->Env->Option Out
 | [],δ=>some (.nx δ)
 |x::r,δ=>match γ x δ with
  |none=>none
  |some δ1=>match φ δ1 with
   |none=>none
   |some (.nx δ2)=>ZR γ φ r δ2
   |some (.ct δ2)=>ZR γ φ r δ2
   |some (.bk δ2)=>some (.nx δ2)
   |some (.rt d)=>some (.rt d)
def ZJ(ι:Env->Option (List D))(γ:D->Env->Option Env)(φ:Env->Option Out)(δ:Env):Option Out:=match ι δ with
 |some xs=>ZR γ φ xs δ
 |none=>none
theorem Xq{wi:TI}{g:TG}{tb:TS}{ι:Env->Option (List D)}{γ:D->Env->Option Env}{φ:Env->Option Out}(hi:VI G ow wi ι)(hg:VG G ow ow g γ)(hb:VS G ow ow ow ow tb φ):VS G ow ow owB owC (XI wi g tb) (ZJ ι γ φ):=λH0 av A σ H δ E o e De k=>by
 unfold ZJ at e;cases he:ι δ with
 |none=>rw [he]at e;cases e
 |some xs=>
  rw [he]at e;have e:ZR γ φ xs δ=some o:=e;refine hi H0 av A σ H δ E xs he _ λJ H1 s1 W => ?_
  have E1:=E.mono s1;refine⟨λi m σ' H'=>m=xs.length-i/\i<=xs.length/\∃A' δ',ER G ow (DL.cut A H1) av A' σ' H' δ'/\ZR γ φ (xs.drop i) δ'=some o,⟨xs.length,by simp,Nat.zero_le _,A,δ,E1.cut,e⟩,?_⟩
  rintro i m σ' H' ⟨rfl,hle,A',δ',E',e'⟩
  obtain⟨w1,w2,w3⟩:=W H' E'.same
  by_cases hlt:i<xs.length
  · refine .inr ⟨w1 i hlt,λσ2 H2=>∃A2 δ2,ER G ow (DL.cut A H1) av A2 σ2 H2 δ2/\ZR γ φ (xs.drop (i+1)) δ2=some o,λσ2 H2 ⟨A2,δ2,E2,e2⟩=>⟨xs.length-(i+1),by omega,rfl,hlt,A2,δ2,E2,e2⟩,λv H2 y => ?_⟩
    have hx:xs[i]? = some xs[i]:=List.getElem?_eq_getElem hlt;obtain⟨s2,rep⟩:=w2 i _ v H2 hx y;have E2:=E'.mono s2
    have rep':Rep G.1 (AV av A') H2 xs[i] v:=rep _ E'.avl λb z=>by
     rcases z with z|⟨j,z⟩
     · exact .inl (.inl z)
     · exact .inr (E'.fr j b z)
    rw [List.drop_eq_getElem_cons hlt]at e';unfold ZR at e';cases hγ:γ xs[i] δ' with
    |none=>rw [hγ]at e';cases e'
    |some δ1=>
     rw [hγ]at e';dsimp only at e';refine hg _ av A' σ' H2 δ' E2 _ v rep' δ1 hγ _ λA3 σ3 H3 s3 E3 => ?_
     cases hφ:φ δ1 with
     |none=>rw [hφ]at e';cases e'
     |some o1=>
      rw [hφ]at e';refine hb _ av A3 σ3 H3 δ1 E3 o1 hφ _ ?_;cases o1 with
      |nx δ2=>exact λA4 σ4 H4 E4=>⟨A4,δ2,E4,e'⟩
      |ct δ2=>exact λA4 σ4 H4 E4=>⟨A4,δ2,E4,e'⟩
      |bk δ2=>cases e';exact λA4 σ4 H4 E4=>k A4 σ4 H4 (E1.uncut E4)
      |rt d=>cases e';exact λv H4 s4 r4=>k v H4 (E1.sub0.trans s4) r4
  · have ei:i=xs.length:=by omega
    subst ei;rw [List.drop_length]at e';cases e';exact .inl ⟨w3 _ (Nat.le_refl _),k A' σ' H' (E1.uncut E')⟩
def Yn(τ:Env->Option Bool)(φ:Env->Option Out):Nat->Env->Option Out
 |0,_=>none
 |n+1,δ=>match τ δ with
  |none=>none
  |some false=>some (.nx δ)
  |some true=>match φ δ with
   |none=>none
   |some (.nx δ2)=>Yn τ φ n δ2
   |some (.ct δ2)=>Yn τ φ n δ2
   |some (.bk δ2)=>some (.nx δ2)
   |some (.rt d)=>some (.rt d)
theorem QK{τ:Env->Option Bool}{φ:Env->Option Out}:∀(n k:Nat)(δ:Env)(o:Out),Yn τ φ n δ=some o->Yn τ φ (n+k) δ=some o
 |0,_,_,_,h=>by cases h
 |n+1,k,δ,o,h=>by
  rw [Nat.add_right_comm];unfold Yn at h ⊢;cases ht:τ δ with
  |none=>rw [ht]at h;cases h
  |some b=>
   rw [ht]at h;cases b with
   |false=>exact h
   |true=>
    dsimp only at h ⊢;cases hp:φ δ with
    |none=>rw [hp]at h;cases h
    |some o1=>
     rw [hp]at h;cases o1 with
     |nx δ2=>exact QK n k δ2 o h
     |ct δ2=>exact QK n k δ2 o h
     |bk δ2=>exact h
     |rt d=>exact h
open Classical in
noncomputable def Yo(τ:Env->Option Bool)(φ:Env->Option Out)(δ:Env):Option Out:=if h:∃n o,Yn τ φ n δ=some o then Yn τ φ (Classical.choose h) δ else none
theorem Zd1{τ:Env->Option Bool}{φ:Env->Option Out}{δ:Env}{n:Nat}{o:Out}(h:Yn τ φ n δ=some o):Yo τ φ δ=some o:=by
 have hx:∃n o,Yn τ φ n δ=some o:=⟨n,o,h⟩
 unfold Yo;rw [dif_pos hx];obtain⟨o',ho'⟩:=Classical.choose_spec hx;have h1:=QK _ n δ o' ho';have h2:=QK _ (Classical.choose hx) δ o h;rw [Nat.add_comm,h2]at h1;rw [ho',h1]
theorem ZbD{τ:Env->Option Bool}{φ:Env->Option Out}{δ:Env}{o:Out}(h:Yo τ φ δ=some o):∃n,Yn τ φ n δ=some o:=by
 unfold Yo at h
 split at h
 · exact⟨_,h⟩
 · cases h
theorem J7{c:TT}{tb:TS}{τ:Env->Option Bool}{φ:Env->Option Out}(hc:VT G ow c τ)(hb:VS G ow ow ow ow tb φ):VS G ow ow owB owC (JB c tb) (Yo τ φ):=λH0 av A σ H δ E o e De k=>by
 obtain⟨n,e⟩:=ZbD e;refine⟨λm σ' H'=>∃A' δ',ER G ow H0 av A' σ' H' δ'/\Yn τ φ m δ'=some o,⟨n,A,δ,E,e⟩,?_⟩
 rintro m σ' H' ⟨A',δ',E',e'⟩
 cases m with
 |zero=>cases e'
 |succ m=>
  unfold Yn at e';cases ht:τ δ' with
  |none=>rw [ht]at e';cases e'
  |some b=>
   rw [ht]at e';refine hc H0 av A' σ' H' δ' E' b ht _ λH2 s2 => ?_
   have E2:=E'.mono s2;cases b with
   |false=>cases e';exact Vr (k A' σ' H2 E2)
   |true=>
    dsimp only at e';refine Vs ⟨λσ3 H3=>∃A3 δ3,ER G ow H0 av A3 σ3 H3 δ3/\Yn τ φ m δ3=some o,λσ3 H3 ⟨A3,δ3,E3,e3⟩=>⟨m,Nat.lt_succ_self _,A3,δ3,E3,e3⟩,?_⟩;cases hφ:φ δ' with
    |none=>rw [hφ]at e';cases e'
    |some o1=>
     rw [hφ]at e';refine hb H0 av A' σ' H2 δ' E2 o1 hφ _ ?_;cases o1 with
     |nx δ2=>exact λA4 σ4 H4 E4=>⟨A4,δ2,E4,e'⟩
     |ct δ2=>exact λA4 σ4 H4 E4=>⟨A4,δ2,E4,e'⟩
     |bk δ2=>cases e';exact k
     |rt d=>cases e';exact k
end
end DL
namespace DL
open PySem PySem.Spec L2
section
variable{cA:Kn}{G:Cn}{ow owN owB owC:List Nat}
def Z6(ε:Env->Option D)(δ:Env):Option (List D):=match ε δ with
 |some (.lst xs)=>some xs
 |some (.tup xs)=>some xs
 |some (.str cs)=>some (cs.map λc => .str [c])
 |_=>none
theorem Rep.cut{av:Addr->Prop}{A:Nat->Option Addr}{H:Hp}{d:D}{v:V}(h:Rep cA (AV av A) H d v):Rep cA (AV av A) (DL.cut A H) d v:=h.ext λb o n e=>by
 rw [Uc λ⟨i,z⟩=>n (.inr ⟨i,z⟩)];exact e
theorem RepL.cut{av:Addr->Prop}{A:Nat->Option Addr}{H:Hp}{d:List D}{v:List V}(h:RepL cA (AV av A) H d v):RepL cA (AV av A) (DL.cut A H) d v:=h.ext λb o n e=>by
 rw [Uc λ⟨i,z⟩=>n (.inr ⟨i,z⟩)];exact e
theorem Zcy{iv:Addr->Prop}{H0:Hp}{a:Addr}{vs:List V}{xs:List D}(rd:SqL cA.K H0 a vs)(l:RepL cA iv H0 xs vs):Ud cA iv (Itl cA.K a) xs H0:=λH s=>by
 have rd':SqL cA.K H a vs:=s.seq rd;refine⟨λi hi => ?_,λi x v H' hx y => ?_,λi hi=>⟨vs,rd',by rw [<-l.length];exact hi⟩⟩
 · obtain⟨v,hv,_⟩:=l.get (List.getElem?_eq_getElem hi)
   exact⟨vs,v,rd',hv⟩
 · obtain⟨rfl,hy⟩:=y
   obtain⟨v',hv,r⟩:=l.get hx;rw [hy vs rd']at hv;cases hv;exact⟨Same.refl _,λav' _ h2=>(r.av h2).same s⟩
theorem Zd2{K:PySem.W.Frag}{iv:Addr->Prop}{H0:Hp}{a:Addr}{vs:List V}{xs:List D}(rd:H0 a=some (.tup vs))(l:RepL cA iv H0 xs vs):Ud cA iv (Itt K a) xs H0:=λH s=>by
 have rd':SqT K H a vs:=SqT.of (s _ _ rd);refine⟨λi hi => ?_,λi x v H' hx y => ?_,λi hi=>⟨vs,rd',by rw [<-l.length];exact hi⟩⟩
 · obtain⟨v,hv,_⟩:=l.get (List.getElem?_eq_getElem hi)
   exact⟨vs,v,rd',hv⟩
 · obtain⟨rfl,hy⟩:=y
   obtain⟨v',hv,r⟩:=l.get hx;rw [hy vs rd']at hv;cases hv;exact⟨Same.refl _,λav' _ h2=>(r.av h2).same s⟩
theorem Zd3{iv:Addr->Prop}{H0:Hp}{cs:List Nat}:Ud cA iv (Its cs) (cs.map λc => .str [c]) H0:=λH s=>by
 refine⟨λi hi=>(show i<cs.length by simpa using hi),λi x v H' hx y => ?_,λi hi=>(show cs.length<=i by simpa using hi)⟩;obtain⟨rfl,c,hc,rfl⟩:=y;rw [List.getElem?_map,hc]at hx;cases hx;exact⟨Same.refl _,λ_ _ _=>rfl⟩
theorem Ue{tl:TE}{ε:Env->Option D}(h:VE G ow tl .cl ε):VI G ow (Vu G.1.K tl) (Z6 ε):=λH0 av A σ H δ E xs e R k=>by
 unfold Z6 at e;cases he:ε δ with
 |none=>rw [he]at e;cases e
 |some d=>
  rw [he]at e;refine h H0 av A σ H δ E d he _ λv H1 s r => ?_
  cases d<;>first|(cases e;done)|skip
  · cases e
    exact .inr (.inr ⟨_,r,k _ H1 s Zd3⟩)
  · cases e
    obtain⟨a,vs,rfl,na,rd,l⟩:=r;exact .inl ⟨a,vs,rfl,rd,k _ H1 s (Zcy (Zfo na rd λb o n e=>by rw [Uc λ⟨i,z⟩=>n (.inr ⟨i,z⟩)];exact e) l.cut)⟩
  · cases e
    obtain⟨a,vs,rfl,na,rd,l⟩:=r;exact .inr (.inl ⟨a,vs,rfl,SqT.of rd,k _ H1 s (Zd2 (by rw [Uc λ⟨i,z⟩=>na (.inr ⟨i,z⟩)];exact rd) l.cut)⟩)
def ZO(lo c:Int)(n:Nat):List D:=(List.range n).map λk => .int (lo+(k:Nat)*c)
theorem QL{iv:Addr->Prop}{H0:Hp}{lo:Int}{n:Nat}:Ud cA iv (Itr lo n) (ZO lo 1 n) H0:=λH s=>by
 refine⟨λi hi=>(show i<n by simpa [ZO]using hi),λi x v H' hx y => ?_,λi hi=>(show n<=i by simpa [ZO]using hi)⟩;obtain⟨rfl,rfl⟩:=y;have hi:i<n:=by have:=(List.getElem?_eq_some_iff.mp hx).1;simpa [ZO]using this
 have:x = .int (lo+i):=by
  unfold ZO at hx;rw [List.getElem?_map,List.getElem?_range hi]at hx;have:=Option.some.inj hx;rw [<-this];show D.int (lo+(i:Int)*1)=_;rw [Int.mul_one]
 subst this;exact⟨Same.refl _,λ_ _ _=>rfl⟩
def ZB(α:Env->Option (List D))(δ:Env):Option (List D):=match α δ with
 |some [.int j]=>if -(2 ^ 62)<=j/\j<2 ^ 62 then some (ZO 0 1 j.toNat)else none
 |some [.int i,.int j]=>if -(2 ^ 62)<=i/\i<2 ^ 62 /\ -(2 ^ 62)<=j/\j<2 ^ 62 then some (ZO i 1 (j-i).toNat)else none
 |some [.int i,.int j,.int c]=>if c≠0/\c.natAbs<1073741824/\Builtin.Range.small i j c=true then some (ZO i c (Builtin.Range.rangeSize i j c).toNat)else none
 |_=>none
theorem ql1{av:Addr->Prop}{A:Nat->Option Addr}{H:Hp}{q:Ql}{x:Int}{vs:List V}(h:RepQL cA av A H q [.int x] vs):vs=[.int x]:=by
 obtain⟨v,r,rfl,h1,h2⟩:=h;have:=h1.any;cases(show v=_ from this);cases(show r=[]from h2);rfl
theorem ql2{av:Addr->Prop}{A:Nat->Option Addr}{H:Hp}{q:Ql}{x y:Int}{vs:List V}(h:RepQL cA av A H q [.int x,.int y] vs):vs=[.int x,.int y]:=by
 obtain⟨v,r,rfl,h1,h2⟩:=h;have:=h1.any;cases(show v=_ from this);rw [ql1 h2]
theorem Vd{ta:TA}{q:Ql}{a:Env->Option (List D)}(h:VA G ow ta q a)(hl:∀δ ds,a δ=some ds->ds.length=1):VI G ow (JC ta) (ZB a):=λH0 av A σ H δ E xs e R k=>by
 unfold ZB at e;cases he:a δ with
 |none=>rw [he]at e;cases e
 |some ds=>
  rw [he]at e;refine h H0 av A σ H δ E ds he _ λvs H1 s r => ?_
  have hln:=hl δ ds he
  split at e
  · rename_i j he2
    cases he2
    by_cases hz : -(2 ^ 62)<=j/\j<2 ^ 62
    · rw [if_pos hz]at e
      cases e;exact⟨j,ql1 r,hz.1,hz.2,k _ H1 s QL⟩
    · rw [if_neg hz]at e;cases e
  · rename_i he2;cases he2;simp at hln
  · rename_i he2;cases he2;simp at hln
  · cases e
theorem Zgl{ta:TA}{q:Ql}{a:Env->Option (List D)}(h:VA G ow ta q a)(hl:∀δ ds,a δ=some ds->ds.length=2):VI G ow (JD ta) (ZB a):=λH0 av A σ H δ E xs e R k=>by
 unfold ZB at e;cases he:a δ with
 |none=>rw [he]at e;cases e
 |some ds=>
  rw [he]at e;refine h H0 av A σ H δ E ds he _ λvs H1 s r => ?_
  have hln:=hl δ ds he
  split at e
  · rename_i he2;cases he2;simp at hln
  · rename_i i j he2
    cases he2
    by_cases hz : -(2 ^ 62)<=i/\i<2 ^ 62 /\ -(2 ^ 62)<=j/\j<2 ^ 62
    · rw [if_pos hz]at e
      cases e;exact⟨i,j,ql2 r,hz,k _ H1 s QL⟩
    · rw [if_neg hz]at e;cases e
  · rename_i he2;cases he2;simp at hln
  · cases e
theorem Zgm{δ:Env}{ds:List D}(h:eNil δ=some ds):ds.length=0:=by cases h;rfl
theorem Zb2{a:Env->Option D}{r:Env->Option (List D)}{n:Nat}(hr:∀δ ds,r δ=some ds->ds.length=n):∀δ ds,Zb a r δ=some ds->ds.length=n+1:=λδ ds h=>by
 unfold Zb at h;cases ha:a δ with
 |none=>rw [ha]at h;cases h
 |some x=>
  rw [ha]at h;cases hr':r δ with
  |none=>rw [hr']at h;cases h
  |some xs=>rw [hr']at h;cases h;rw [List.length_cons,hr δ xs hr']
theorem Xc{a:Env->Option D}:∀δ ds,Zb a eNil δ=some ds->ds.length=1:=Zb2 λ_ _=>Zgm
theorem Zkg{a b:Env->Option D}:∀δ ds,Zb a (Zb b eNil) δ=some ds->ds.length=2:=Zb2 Xc
def Xr(n:Nat)(δ:Env)(js:List Nat):Env:=List.replicate n none++js.map λj=>(δ[j]?).getD none
def YN(γ:D->Env->Option Env)(τ:Env->Option Bool)(ε:Env->Option D)(δ0:Env):List D->Option (List D)
 | []=>some []
 |x::r=>match γ x δ0 with
  |none=>none
  |some δ1=>match τ δ1 with
   |none=>none
   |some false=>YN γ τ ε δ0 r
   |some true=>match ε δ1 with
    |none=>none
    |some y=>match YN γ τ ε δ0 r with
     |none=>none
     |some ys=>some (y::ys)
def Yp(ι:Env->Option (List D))(γ:D->Env->Option Env)(τ:Env->Option Bool)(ε:Env->Option D)(n:Nat)(js:List Nat)(δ:Env):Option D:=match ι δ with
 |none=>none
 |some xs=>match YN γ τ ε (Xr n δ js) xs with
  |none=>none
  |some ys=>if ys.length<=sizeLine then some (.lst ys)else none
theorem ER.blk{H0 H:Hp}{av:Addr->Prop}{A:Nat->Option Addr}{σ:L2.St}{δ:Env}(n:Nat)(js:List Nat)(hjs:js.all (λj => !ow.contains j)=true)(E:ER G ow H0 av A σ H δ) :
 ER ⟨G.1,λ_=>none⟩ [] H (AV av A) (λ_=>none) (L2.blk n σ js) H (Xr n δ js):=by
 refine⟨Same.refl H,E.avl,λ_ _ z=>(by cases z),λ_ _ _ z=>(by cases z),λ_ _ z=>(by cases z),λ_ z=>absurd rfl z,λ_ z=>(by cases z),?_,λ_ _ z=>(by cases z),λ_ _ z=>(by cases z),λi d e => ?_⟩
 · unfold L2.blk Xr Vt
   rw [List.length_append,List.length_append,List.length_replicate,List.length_replicate,List.length_map,List.length_map]
 · unfold Xr at e
   by_cases hi:i<n
   · rw [List.getElem?_append_left (by simpa using hi),List.getElem?_replicate,if_pos hi]at e
     cases e
   · rw [List.getElem?_append_right (by simpa using hi),List.length_replicate,List.getElem?_map]at e
     cases hj:js[i-n]? with
     |none=>rw [hj]at e;cases e
     |some j=>
      rw [hj]at e;have e':(δ[j]?).getD none=some d:=Option.some.inj e
      have e2:δ[j]? = some (some d):=by
       cases q:δ[j]? with
       |none=>rw [q]at e';cases e'
       |some z=>rw [q]at e';exact congrArg some e'
      obtain⟨v,h1,h2,_⟩:=E.var j d e2
      have hjo:A j=none:=by
       cases q:A j with
       |none=>rfl
       |some a=>
        have h3:=E.dom j (by rw [q];exact λz=>by cases z);have h4:=List.all_eq_true.mp hjs j (List.mem_of_getElem? hj);simp at h4;exact absurd h3 h4
      refine⟨v,?_,λ_=>(h2 hjo).av λb z => ?_,λ_ z=>(by cases z)⟩
      · unfold L2.blk Vt
        rw [List.getElem?_append_right (by simpa using hi),List.length_replicate,List.getElem?_map,hj];show some ((σ[j]?).getD none)=_;rw [h1];rfl
      · rcases z with z|⟨_,z⟩
        · exact .inl z
        · cases z
theorem US {wi:TI} {g:TG} {tt:TT} {te:TE} {n:Nat} {js:List Nat} {ι:Env->Option (List D)} {γ:D->Env->Option Env} {τ:Env->Option Bool} {ε:Env->Option D}
 (hjs:js.all (λj => !ow.contains j)=true) (hi:VI G ow wi ι) (hg:VG ⟨G.1,λ_=>none⟩ [] [] g γ) (ht:VT ⟨G.1,λ_=>none⟩ [] tt τ) (he:VE ⟨G.1,λ_=>none⟩ [] te .cl ε):VF G ow (Qs wi g tt te n js) (Yp ι γ τ ε n js):=λH0 av A σ H δ E d e Q k=>by
 unfold Yp at e;cases hι:ι δ with
 |none=>rw [hι]at e;cases e
 |some xs=>
  rw [hι]at e;dsimp only at e;cases hc:YN γ τ ε (Xr n δ js) xs with
  |none=>rw [hc]at e;cases e
  |some full=>
   rw [hc]at e;dsimp only at e
   by_cases hz:full.length<=sizeLine
   · rw [if_pos hz]at e
     have ed:D.lst full=d:=Option.some.inj e;refine hi H0 av A σ H δ E xs hι _ λJ H1 s1 W => ?_
     have E1:=E.mono s1
     refine⟨λi m ys H'=>m=xs.length-i/\i<=xs.length/\Same H1 H'/\∃done rest,RepL G.1 (AV av A) H' done ys/\YN γ τ ε (Xr n δ js) (xs.drop i)=some rest/\done++rest=full,
      ⟨xs.length,by simp,Nat.zero_le _,Same.refl _,[],full,.nil,hc,rfl⟩,?_⟩
     rintro i m ys H' ⟨rfl,hle,s',done,rest,rl,hr,hf⟩
     have E':=E1.mono s';have sc:Same (DL.cut A H1) H':=λb o z=>s' b o (Zb0 z).1
     obtain⟨w1,w2,w3⟩:=W H' sc
     by_cases hlt:i<xs.length
     · refine .inr ⟨w1 i hlt,λv H2 y => ?_⟩
       have hx:xs[i]? = some xs[i]:=List.getElem?_eq_getElem hlt;obtain⟨s2,rep⟩:=w2 i _ v H2 hx y;have rep':Rep G.1 (AV av A) H2 xs[i] v:=rep _ E'.avl λb z => .inl z
       have E2:=E'.mono s2;have EB:ER ⟨G.1,λ_=>none⟩ [] H2 (AV av A) (λ_=>none) (L2.blk n σ js) H2 (Xr n δ js):=E2.blk n js hjs
       have triv:∀(A':Nat->Option Addr){σ':L2.St}{H3:Hp}{δ':Env},ER ⟨G.1,λ_=>none⟩ [] H2 (AV av A) A' σ' H3 δ'->∀b,AV (AV av A) A' b ↔ AV av A b:=λA' {σ' H3 δ'} E3 b=>by
        constructor
        · rintro(z|⟨j,z⟩)
          · exact z
          · have:=E3.dom j (by rw [z];exact λz=>by cases z)
            cases this
        · exact λz => .inl z
       rw [List.drop_eq_getElem_cons hlt]at hr;unfold YN at hr;cases hγ:γ xs[i] (Xr n δ js)with
       |none=>rw [hγ]at hr;cases hr
       |some δ1=>
        rw [hγ]at hr;dsimp only at hr;refine hg _ _ _ _ H2 _ EB _ v (rep'.av λb z => .inl ((triv _ EB b).mp z)) δ1 hγ _ λA3 σ3 H3 s3 E3 => ?_
        cases hτ:τ δ1 with
        |none=>rw [hτ]at hr;cases hr
        |some c=>
         rw [hτ]at hr;refine ht _ _ A3 σ3 H3 δ1 E3 c hτ _ λH4 s4 => ?_
         have E4:=E3.mono s4;cases c with
         |false=>
          exact Vr ⟨xs.length-(i+1),by omega,rfl,hlt,(s'.trans s2).trans (s3.trans s4),done,rest,rl.same ((s2.trans s3).trans s4),hr,hf⟩
         |true=>
          dsimp only at hr;cases hε:ε δ1 with
          |none=>rw [hε]at hr;cases hr
          |some yd=>
           rw [hε]at hr;dsimp only at hr;cases hr':YN γ τ ε (Xr n δ js) (xs.drop (i+1))with
           |none=>rw [hr']at hr;cases hr
           |some rest'=>
            rw [hr']at hr;have hrr:yd::rest'=rest:=Option.some.inj hr;subst hrr;refine Vs (he _ _ A3 σ3 H4 δ1 E4 yd hε _ λvy H5 s5 r5 => ?_);have sall:Same H' H5:=((s2.trans s3).trans s4).trans s5;refine⟨?_,xs.length-(i+1),by omega,rfl,hlt,s'.trans sall,done++[yd],rest',(rl.same sall).append (.cons ((RepT.r r5).av λb z => .inl ((triv _ E4 b).mpr z)) .nil),hr',by rw [<-hf];simp⟩
            have:=congrArg List.length hf;rw [List.length_append,List.length_cons]at this;have:=rl.length;omega
     · have ei:i=xs.length:=by omega
       subst ei;rw [List.drop_length]at hr;cases hr;refine .inl ⟨w3 _ (Nat.le_refl _),λp hp=>k p ys full H' (s1.trans s') hp (by rw [<-hf,List.append_nil];exact rl) ed.symm⟩
   · rw [if_neg hz]at e;cases e
def spD(cA:Kn)(n:Nat)(m:List D->Option D):Sp:=λvs H Q _=>∃av ds d,(∀a,av a->H a≠none)/\RepL cA av H ds vs/\ds.length=n/\m ds=some d/\∀v H',Same H H'->Rep cA av H' d v->Q v H'
def ZE(n:Nat)(m:List D->Option D)(dds:List D)(α:Env->Option (List D))(δ:Env):Option D:=match α δ with
 |some ds=>if(ds++dds).length=n then m (ds++dds)else none
 |none=>none
def Ql.cq:Ql->Ql
 | .cl => .cl
 |_ => .dt
theorem YB{n:Nat}{m:List D->Option D}{t:TA}{q:Ql}{α:Env->Option (List D)}{E0:XK}(dds:List D)(hd:dds.all Zj=true)(h:VA G ow t q α):VE G ow (Qn (spD G.1 n m) (dds.map val) E0 t) q.cq (ZE n m dds α):=λH0 av A σ H δ E d e Q k=>by
 unfold ZE at e;cases he:α δ with
 |none=>rw [he]at e;cases e
 |some ds=>
  rw [he]at e;dsimp only at e
  by_cases hz:(ds++dds).length=n
  · rw [if_pos hz]at e
    refine h H0 av A σ H δ E ds he _ λvs H1 s1 r1 => ?_
    have E1:=E.mono s1;cases q with
    |cl=>exact⟨AV av A,ds++dds,d,E1.avl,r1.cl.append (.of_vals hd),hz,e,λv H' s r=>k v H' (s1.trans s) r.t⟩
    |tp=>exact⟨av,ds++dds,d,E1.avH,r1.any.append (.of_vals hd),hz,e,λv H' s r=>k v H' (s1.trans s) r.t⟩
    |dt=>exact⟨av,ds++dds,d,E1.avH,r1.any.append (.of_vals hd),hz,e,λv H' s r=>k v H' (s1.trans s) r.t⟩
  · rw [if_neg hz]at e;cases e
def run(N:Nat)(φ:Env->Option Out)(ds:List D):Option D:=match φ (ds.map some++List.replicate (N-ds.length) none)with
 |some (.rt d)=>some d
 |some (.nx _)=>some .non
 |_=>none
theorem Zd4{N:List Str}{ds:List D}{vs:List V}{av:Addr->Prop}{H:Hp}(r:RepL cA av H ds vs){i:Nat}{d:D}(h:(ds.map some++List.replicate (N.length-ds.length) none)[i]? = some (some d)) :
 ∃v,(L2.start N vs)[i]? = some (some v)/\Rep cA av H d v:=by
 by_cases hi:i<ds.length
 · rw [List.getElem?_append_left (by simpa using hi),List.getElem?_map]at h
   cases hd:ds[i]? with
   |none=>rw [hd]at h;cases h
   |some x=>
    rw [hd]at h;cases h;obtain⟨v,hv,rv⟩:=r.get hd;refine⟨v,?_,rv⟩;unfold L2.start;have:i<vs.length:=by rw [<-r.length];exact hi
    rw [List.getElem?_append_left (by simpa using this),List.getElem?_map,hv];rfl
 · rw [List.getElem?_append_right (by simpa using hi),List.getElem?_replicate]at h
   split at h<;>cases h
theorem QM{N:List Str}{ds:List D}{vs:List V}{av:Addr->Prop}{H:Hp}(ha:∀a,av a->H a≠none)(r:RepL cA av H ds vs) :
 ER ⟨cA,λ_=>none⟩ [] H av (λ_=>none) (L2.start N vs) H (ds.map some++List.replicate (N.length-ds.length) none):=by
 refine⟨Same.refl H,ha,λ_ _ z=>(by cases z),λ_ _ _ z=>(by cases z),λ_ _ z=>(by cases z),λ_ z=>absurd rfl z,λ_ z=>(by cases z),?_,λ_ _ z=>(by cases z),λ_ _ z=>(by cases z),λi d e => ?_⟩
 · unfold L2.start
   rw [List.length_append,List.length_append,List.length_map,List.length_map,List.length_replicate,List.length_replicate,r.length]
 · obtain⟨v,h1,h2⟩:=Zd4 r e
   refine⟨v,h1,λ_=>h2.av λb z => ?_,λ_ z=>(by cases z)⟩;rcases z with z|⟨_,z⟩
   · exact .inl z
   · cases z
section
variable{P:Program}{w:World}{K:PySem.W.Frag}{mg:Str->Option Value}{base:Heap}
end
def Zkh(_:Env):Option (Option Int):=some none
def xP(ε:Env->Option D)(δ:Env):Option (Option Int):=match ε δ with
 |some (.int i)=>some (some i)
 |_=>none
def slD:D->Option Int->Option Int->Option D
 | .str a,lo,hi=>if a.length<=sizeLine then some (.str (L2.cutL a lo hi))else none
 | .lst xs,lo,hi=>some (.lst (L2.cutL xs lo hi))
 | .tup xs,lo,hi=>if UB xs.length 0 lo=0/\UB xs.length xs.length hi=xs.length then none else some (.tup (L2.cutL xs lo hi))
 |_,_,_=>none
def eSl(a:Env->Option D)(lo hi:Env->Option (Option Int))(δ:Env):Option D:=match a δ with
 |some x=>match lo δ with
  |some l=>match hi δ with
   |some u=>slD x l u
   |none=>none
  |none=>none
 |none=>none
def J8(K:PySem.W.Frag):List V->Hp->VK->Prop:=λxs H Q=>Zkv K xs H Q\/∃p vs c cv b,xs=[.ref p,c]/\(∀v,RelV c v->v=cv)/\KL K p vs/\kitOne K (.type "list") cv=some b/\Q (.bl b) H
theorem Zft{X:Cx}{K:PySem.W.Frag}(hK:X.K=K:=by rfl):Yq X (.builtin "isinstance") (J8 K):=by
 subst hK;intro pins s σ H xs us Q I rs h;rcases h with h|⟨p,vs,c,cv,b,rfl,hc,⟨o,its,n,hk,h1,_⟩,e,q⟩
 · exact Zex pins s σ H xs us Q I rs h
 · obtain⟨u,w',rfl,rx,rc⟩:=Zhr rs
   have ec:=hc _ rc;subst ec;cases(show u=Value.ref p from rx);exact PySem.W.kia_one PySem.W.kitx_list I.kIn ⟨o,I.kIn p o hk,h1⟩ e (λz=>nomatch z) λtk=>⟨.bl b,H,I.tok tk,rfl,q⟩
def kind:D->String
 | .non => "NoneType"
 | .bl _ => "bool"
 | .int _ => "int"
 | .str _ => "str"
 | .lst _ => "list"
 | .tup _ => "tuple"
 | .obj c _ _=>c
 | .dct _ _ => "dict"
 | .dtt _ _ => "dict"
def plainKinds:List String:=["NoneType", "bool", "int", "str", "list", "tuple"]
def Uf(tab:List (String×Bool)):D->Option Bool
 | .obj c _ _=>if plainKinds.contains c then none else tab.lookup c
 | .dct _ _=>none
 | .dtt _ _=>none
 |d=>tab.lookup (kind d)
def Xs(tab:List (String×Bool))(a:Env->Option D)(δ:Env):Option D:=match a δ with
 |some d=>match Uf tab d with
  |some b=>some (.bl b)
  |none=>none
 |none=>none
structure ClsI(K:PySem.W.Frag)(C:Addr):Prop where
 cl:Cls K C
 ha:PySem.W.findIn K (.ref C) "__class__" = some (some (.builtin "object.__class__"))
 hn:PySem.W.specialIn K (.builtin "object.__class__") "__get__" = some (some (.builtin "getset_descriptor.__get__"))
 htk:PySem.W.takesIn K (.builtin "object.__class__")=some true
 hm:PySem.W.mroIn K C (.type "object")=some true
structure IsiOk(K:PySem.W.Frag)(cA:Kn)(cv:Value)(tab:List (String×Bool)):Prop where
 plain:∀k∈plainKinds,∀b,tab.lookup k=some b->kitOne K (.type k) cv=some b
 own:∀(c:String)b,plainKinds.contains c=false->tab.lookup c=some b->kitOne K (.ref (cA.c c)) cv=some b/\ClsI K (cA.c c)
theorem J9{β:Type}{c:String}{b:β}:∀{tab:List (String×β)},tab.lookup c=some b->(c,b)∈tab
 | [],h=>by simp at h
 |(c',b')::r,h=>by
  rw [List.lookup_cons]at h;cases hc:c == c' with
  |true=>
   rw [hc]at h;cases h;rw [eq_of_beq hc];exact List.mem_cons_self
  |false=>
   rw [hc]at h;exact List.mem_cons_of_mem _ (J9 h)
theorem Zdf{K:PySem.W.Frag}{cA:Kn}{cv:Value}{tab:List (String×Bool)}(h:∀p∈tab,if plainKinds.contains p.1=true then kitOne K (.type p.1) cv=some p.2 else kitOne K (.ref (cA.c p.1)) cv=some p.2/\ClsI K (cA.c p.1)):IsiOk K cA cv tab where
 plain:=λk hk b hl=>by
  have:=h _ (J9 hl)
  rwa [if_pos (by simpa using hk)]at this
 own:=λc b hc hl=>by
  have:=h _ (J9 hl)
  rwa [if_neg (by simpa using hc)]at this
theorem Zfu{ta:TE}{q:Ql}{a:Env->Option D}{c:V}{cv:Value}{tab:List (String×Bool)}(hc:∀v,RelV c v->v=cv)(I:IsiOk G.1.K G.1 cv tab)(ha:VE G ow ta q a) :
 VE G ow (tCB (J8 G.1.K) (Z0 ta (Z0 (tC c) tNil))) .cl (Xs tab a):=λH0 av A σ H δ E d e Q k=>by
 unfold Xs at e;cases he:a δ with
 |none=>rw [he]at e;cases e
 |some x=>
  rw [he]at e;dsimp only at e;cases ht:Uf tab x with
  |none=>rw [ht]at e;cases e
  |some b=>
   rw [ht]at e;cases e;refine ha H0 av A σ H δ E x he _ λv H1 s r => ?_
   have r':=r.any;have fin:∀t,TyOf G.1.K H1 v t->kitOne G.1.K t cv=some b->J8 G.1.K [v,c] H1 Q:=λt ty e => .inl ⟨v,c,cv,t,b,rfl,hc,ty,e,k _ H1 s rfl⟩
   cases x with
   |non=>cases(show v=_ from r');exact fin _ .non (I.plain _ (by decide) b (by exact ht))
   |bl y=>cases(show v=_ from r');exact fin _ (.bl y) (I.plain _ (by decide) b (by exact ht))
   |int y=>cases(show v=_ from r');exact fin _ (.int y) (I.plain _ (by decide) b (by exact ht))
   |str y=>cases(show v=_ from r');exact fin _ (.str _) (I.plain _ (by decide) b (by exact ht))
   |lst y=>
    unfold Rep at r';obtain⟨p,vs,rfl,_,rd,_⟩:=r';rcases rd with(rd|⟨o,rd⟩)|rd
    · exact fin _ (.lst rd) (I.plain _ (by decide) b (by exact ht))
    · exact fin _ (.frz rd) (I.plain _ (by decide) b (by exact ht))
    · exact .inr ⟨p,vs,c,cv,b,rfl,hc,rd,I.plain _ (by decide) b (by exact ht),k _ H1 s rfl⟩
   |tup y=>
    unfold Rep at r';obtain⟨p,vs,rfl,_,rd,_⟩:=r';exact fin _ (.tup rd) (I.plain _ (by decide) b (by exact ht))
   |dct ks y=>cases ht
   |dtt ks y=>cases ht
   |obj c' ks y=>
    unfold Rep at r';obtain⟨p,dx,vs,rfl,_,rd,_⟩:=r';dsimp only [Uf]at ht;cases hp:plainKinds.contains c' with
    |true=>rw [hp,if_pos rfl]at ht;cases ht
    |false=>
    rw [hp,if_neg Bool.false_ne_true]at ht;obtain⟨h1,h2⟩:=I.own c' b hp ht;exact fin _ (.ins rd h2.cl h2.ha h2.hn h2.htk h2.hm) h1
end
end DL
namespace L2
open PySem PySem.Spec
section
variable{X:Cx}
end
end L2
namespace DL
open PySem PySem.Spec L2
section
variable{cA:Kn}{G:Cn}{ow:List Nat}
def eBM(f:List Nat->List D->Option D)(a:Env->Option D)(α:Env->Option (List D))(δ:Env):Option D:=match a δ with
 |some (.str cs)=>match α δ with
  |some ds=>f cs ds
  |none=>none
 |_=>none
end
end DL
namespace L2
open PySem PySem.Spec
structure FunX(K:PySem.W.Frag)(x qual:Str)(st:Stmt)(f:Addr)(fd:FuncData):Prop where
 ex:∃(oc:Value) (od:Option Addr) (dV kV doc pm:Value) (an:Option Addr) (cdv ct:Value) (osl:Array (Option Value)),
  fd=fnOf x qual (defArgs st) (defBody st) (defScope st) dV kV doc pm an cdv ct/\K.lookup f=some ⟨oc,od,.func fd,osl⟩/\codeIn K cdv qual=true
theorem Fun.x{K:PySem.W.Frag}{x qual:Str}{st:Stmt}{f:Addr}{fd:FuncData}(F:Fun K x qual st f fd):FunX K x qual st f fd:=by
 obtain⟨oc,od,kV,doc,pm,an,cdv,ct,osl,h⟩:=F.ex;exact⟨oc,od,.none,kV,doc,pm,an,cdv,ct,osl,h⟩
section
variable{P:Program}{w:World}{K:PySem.W.Frag}{mg:Str->Option Value}{base:Heap}
theorem FunX.ok {x qual:Str} {st:Stmt} {f:Addr} {fd:FuncData} {N ps:List Str} {k:Nat} {sp:Sp} (F:FunX K x qual st f fd) (S:FnScope N ps (defScope st)) (len:∀vs H Q E,sp vs H Q E->vs.length=ps.length)
 (hbody:∀(cdv:Value)(A:Around)(outer:List Env)(s:Shared)(H:Hp)(vs:List V)(Q:VK)(E:XK),Room k (A.deeper (PyProof.Rows.envOfC qual (defScope st) s.heap.objs.size f cdv))->sp vs H Q E ->
   ∃t,PSs (Yg CX0 P w K mg base N qual (defScope st) f cdv A outer s H E).nox (defBody st) t/\t { nx:=λ_ H'=>Q .non H',rt:=Q } (start N vs) H):FnOk P w K mg base CX0 (k+1) f fd ps sp:=by
 obtain⟨oc,od,dV,kV,doc,pm,an,cdv,ct,osl,rfl,lk,hcd⟩:=F.ex;refine JK lk hcd S len λA outer s H vs Q E hr hsp => ?_
 obtain⟨t,h,q⟩:=hbody cdv A outer s H vs Q E hr hsp;exact⟨t,h.nox,q⟩
end
section
variable{X:Cx}
end
structure CMeth(K:PySem.W.Frag)(C:Addr)(m:Str)(f:Addr):Prop where
 ga:PySem.W.specialIn K (.ref C) "__getattribute__" = some (some (.builtin "type.__getattribute__"))
 rd:PySem.W.readsIn K C (.type "type")=true
 fc:PySem.W.findCls K (.ref C) (.type "type") m=some (.val (.ref f))
 kp:keepIn K (.ref f)=true
section
variable{X:Cx}{CX:CXT}{k:Nat}{f C:Addr}{fd:FuncData}{ps:List Str}{sp:Sp}{dvs:List V}{ds:List Value}{E:XK}{x m:Str}{p pos apos:Pos}{e o:Expr}{es:List Expr}{ta:TE}{t:TA}
end
end L2
namespace DL
open PySem PySem.Spec L2
theorem Zal{a b:String}(h:Str.ofString a=Str.ofString b):a=b:=by
 rw [Str.ofString_eq_toList,Str.ofString_eq_toList]at h
 have h1:(a.toList.map Char.toNat)=(b.toList.map Char.toNat):=by
  have:=congrArg (λs:Str=>s.cps.toList) h;simpa using this
 have inj:∀{x y:List Char},x.map Char.toNat=y.map Char.toNat->x=y:=by
  intro x
  induction x with
  |nil=>
   intro y h;cases y with
   |nil=>rfl
   |cons _ _=>cases h
  |cons c x ih=>
   intro y h;cases y with
   |nil=>cases h
   |cons d y=>
    rw [List.map_cons,List.map_cons,List.cons.injEq]at h;have:c=d:=Char.toNat_inj.mp h.1;rw [this,ih h.2]
 exact String.toList_inj.mp (inj h1)
theorem Zam(a b:String):(Str.ofString a == Str.ofString b)=(a == b):=by
 rw [Bool.eq_iff_iff,beq_iff_eq,beq_iff_eq];exact⟨Zal,λh=>by rw [h]⟩
section
variable{cA:Kn}{G:Cn}{ow owN owB owC:List Nat}
theorem Zb3{av:Addr->Prop}{H:Hp}{f:String}:∀{ks:List String}{xs:List D}{vs:List V}{d:D},RepL cA av H xs vs->(ks.zip xs).lookup f=some d->∃v,((ks.map Str.ofString).zip vs).lookup (Str.ofString f)=some v/\Rep cA av H d v
 | [],_,_,_,_,h=>by simp at h
 |k::ks,[],_,_,_,h=>by simp at h
 |k::ks,x::xs,vs,d,l,h=>by
  obtain⟨v,r,rfl,h1,h2⟩:=l.uncons;rw [List.zip_cons_cons,List.lookup_cons]at h;rw [List.map_cons,List.zip_cons_cons,List.lookup_cons,Zam];cases hk:f == k with
  |true=>rw [hk]at h;cases h;exact⟨v,rfl,h1⟩
  |false=>rw [hk]at h;exact Zb3 h2 h
theorem Zb4{f:String}:∀{ks:List String}{vs:List V},ks.contains f=false->((ks.map Str.ofString).zip vs).lookup (Str.ofString f)=none
 | [],_,_=>by simp
 |k::ks,[],_=>by simp
 |k::ks,v::vs,h=>by
  rw [List.contains_cons,Bool.or_eq_false_iff]at h;rw [List.map_cons,List.zip_cons_cons,List.lookup_cons,Zam,h.1];exact Zb4 h.2
theorem Zdg{f:String}{y:V}:∀{ks:List String}{vs:List V},ks.length=vs.length->ks.contains f=false->Z7 (Str.ofString f) y ((ks.map Str.ofString).zip vs)=(((ks++[f]).map Str.ofString).zip (vs++[y]))
 | [],[],_,_=>rfl
 | [],_::_,h,_=>by simp at h
 |_::_,[],h,_=>by simp at h
 |k::ks,v::vs,h,hf=>by
  rw [List.contains_cons,Bool.or_eq_false_iff]at hf
  have hne:¬Str.ofString k=Str.ofString f:=λz=>by
   have:=Zal z;have h1:=hf.1;rw [this]at h1;simp at h1
  rw [List.map_cons,List.zip_cons_cons,List.cons_append,List.cons_append,List.map_cons,List.zip_cons_cons];rw [show Z7 (Str.ofString f) y ((Str.ofString k,v)::(ks.map Str.ofString).zip vs)=(if Str.ofString k=Str.ofString f then(Str.ofString k,y)::(ks.map Str.ofString).zip vs else(Str.ofString k,v)::Z7 (Str.ofString f) y ((ks.map Str.ofString).zip vs))from rfl,if_neg hne];rw [Zdg (by simpa using h) hf.2]
def QN(K:PySem.W.Frag)(cA:Kn)(cls:List String)(f:String):Prop:=∀c∈cls,Cls K (cA.c c)/\NoAttr K (cA.c c) (Str.ofString f)
def YC(cls:List String)(f:String)(a:Env->Option D)(δ:Env):Option D:=match a δ with
 |some (.obj c ks xs)=>if cls.contains c then(ks.zip xs).lookup f else none
 |_=>none
theorem QO{K:PySem.W.Frag}{ta:TE}{q:Ql}{a:Env->Option D}{cls:List String}{f:String}(F:QN K G.1 cls f)(ha:VE G ow ta q a):VE G ow (JH K ta (Str.ofString f)) q.it (YC cls f a):=λH0 av A σ H δ E d e Q k=>by
 unfold YC at e;cases he:a δ with
 |none=>rw [he]at e;cases e
 |some x=>
  rw [he]at e;cases x<;>first|(cases e;done)|skip
  rename_i c ks xs;dsimp only at e
  by_cases hc:cls.contains c=true
  · rw [if_pos hc]at e
    obtain⟨h1,h2⟩:=F c (by simpa using hc);refine ha H0 av A σ H δ E _ he _ λv H1 s r => ?_
    obtain⟨p,dx,vs,rfl,_,rd,_,l⟩:=r.tp;obtain⟨w,hw,rw'⟩:=Zb3 l e;refine⟨p,_,dx,_,w,rfl,rd,h1,h2,hw,k w H1 s ?_⟩;cases q<;>exact rw'.t
  · rw [if_neg hc]at e;cases e
def XO(i:Nat)(cls:List String)(f:String)(ε:Env->Option D)(δ:Env):Option Out:=match ε δ with
 |some d=>match Za i δ with
  |some (.obj c ks xs)=>if cls.contains c && !ks.contains f&&decide (ks.length<1000)then some (.nx (δ.set i (some (.obj c (ks++[f]) (xs++[d])))))else none
  |_=>none
 |none=>none
theorem Zfv{K:PySem.W.Frag}{te:TE}{ε:Env->Option D}{cls:List String}{f:String}(i:Nat)(hi:ow.contains i=true)(F:QN K G.1 cls f)(h:VE G ow te .cl ε):VS G ow ow owB owC (Zj3 K (Zq i) te (Str.ofString f)) (XO i cls f ε):=λH0 av A σ H δ E o e De k=>by
 unfold XO at e;cases he:ε δ with
 |none=>rw [he]at e;cases e
 |some d=>
  rw [he]at e;dsimp only at e;cases hv:Za i δ with
  |none=>rw [hv]at e;cases e
  |some x=>
   rw [hv]at e;cases x<;>first|(cases e;done)|skip
   rename_i c ks xs;dsimp only at e
   by_cases hz:(cls.contains c && !ks.contains f&&decide (ks.length<1000))=true
   · rw [if_pos hz]at e
     cases e;simp only [Bool.and_eq_true,decide_eq_true_eq,Bool.not_eq_true']at hz;obtain⟨⟨z1,z2⟩,z3⟩:=hz;obtain⟨h1,h2⟩:=F c (by simpa using z1);have hi':i∈ow:=by simpa using hi
     cases hA:A i with
     |none=>exact absurd hA (E.dom' i hi')
     |some a=>
      refine h H0 av A σ H δ E d he _ λy H1 s r => ?_
      have E1:=E.mono s;obtain⟨v,g1,_,g3⟩:=E1.var i _ (ZT hv);obtain⟨rfl,dx,vs,q1,q0,q2⟩:=g3 a hA;have hl:ks.length=vs.length:=q0.trans q2.length;refine⟨_,g1,a,_,dx,_,rfl,q1,h1,h2,?_,k A σ _ (E1.put hA (ZT hv) (λb o hb e=>by rw [Zc hb];exact e) (by rw [Zm];exact λz=>by cases z) ?_)⟩
      · rw [List.length_zip,List.length_map];omega
      · refine⟨dx,vs++[y],?_,by rw [List.length_append,List.length_append,q0];rfl,?_⟩
        · rw [Zm,Zdg hl z2]
        · have ex : ∀ b o, ¬ AV av A b -> H1 b = some o -> upd H1 a (.ins (G.1.c c) dx (Z7 (Str.ofString f) y ((ks.map Str.ofString).zip vs))) b = some o := fun b o n e => by
           rw [Zc λz=>n (.inr ⟨i,by rw [z];exact hA⟩)];exact e
          exact(q2.append (.cons (RepT.r r) .nil)).ext ex
   · rw [if_neg hz]at e;cases e
def spI(cA:Kn)(n:Nat)(m:List D->Option D):Sp:=λvs H Q _=>∃(x:Addr) (r:List V) (av:Addr->Prop) (ds:List D) (d d':D),vs = .ref x::r/\(∀a,av a->H a≠none)/\¬av x/\Own cA (λa=>av a\/a=x) H d x/\RepL cA (λa=>av a\/a=x) H ds r/\(d::ds).length=n/\m (d::ds)=some d' /\
 ∀H',(∀b o,b≠x->H b=some o->H' b=some o)->Own cA (λa=>av a\/a=x) H' d' x->Q .non H'
theorem Own.live{av:Addr->Prop}{H:Hp}{d:D}{a:Addr}(h:Own cA av H d a):H a≠none:=by
 cases d with
 |lst xs=>obtain⟨vs,q,_⟩:=h;rw [q];exact λz=>by cases z
 |obj c ks xs=>obtain⟨dx,vs,q,_⟩:=h;rw [q];exact λz=>by cases z
 |dct ks xs=>obtain⟨vs,q,_⟩:=h;rw [q];exact λz=>by cases z
 |dtt ks xs=>obtain⟨vs,q,_⟩:=h;rw [q];exact λz=>by cases z
 |_=>exact h.elim
theorem Own.av{av av':Addr->Prop}{H:Hp}{d:D}{a:Addr}(k:∀b,av' b->av b\/H b=none)(h:Own cA av H d a):Own cA av' H d a:=by
 cases d with
 |lst xs=>obtain⟨vs,q,l⟩:=h;exact⟨vs,q,l.av k⟩
 |obj c ks xs=>obtain⟨dx,vs,q,z,l⟩:=h;exact⟨dx,vs,q,z,l.av k⟩
 |dct ks xs=>obtain⟨vs,q,z,l⟩:=h;exact⟨vs,q,z,l.av k⟩
 |dtt ks xs=>obtain⟨vs,q,z,l⟩:=h;exact⟨vs,q,z,l.av k⟩
 |_=>exact h.elim
theorem Own.rep{av:Addr->Prop}{H:Hp}{d:D}{a:Addr}(n:¬av a)(h:Own cA av H d a):Rep cA av H d (.ref a):=by
 cases d with
 |lst xs=>obtain⟨vs,q,l⟩:=h;unfold Rep;exact⟨a,vs,rfl,λz=>(n z).elim,SqL.of q,l⟩
 |obj c ks xs=>obtain⟨dx,vs,q,z,l⟩:=h;unfold Rep;exact⟨a,dx,vs,rfl,n,q,z,l⟩
 |dct ks xs=>obtain⟨vs,q,z,l⟩:=h;unfold Rep;exact⟨a,vs,rfl,n,q,z,l⟩
 |dtt ks xs=>obtain⟨vs,q,z,l⟩:=h;unfold Rep;exact⟨a,vs,rfl,n,q,z,l⟩
 |_=>exact h.elim
def Ve(c:String)(n:Nat)(m:List D->Option D)(dds:List D)(α:Env->Option (List D))(δ:Env):Option D:=match α δ with
 |some ds=>if(D.obj c [] []::(ds++dds)).length=n then m (.obj c [] []::(ds++dds))else none
 |none=>none
theorem Zgn{n:Nat}{m:List D->Option D}{t:TA}{α:Env->Option (List D)}{E0:XK}{c:String}(dds:List D)(hd:dds.all Zj=true)(h:VA G ow t .cl α):VE G ow (Zhs (G.1.c c) (spI G.1 n m) (dds.map val) E0 t) .cl (Ve c n m dds α):=λH0 av A σ H δ E d e Q k=>by
 unfold Ve at e;cases he:α δ with
 |none=>rw [he]at e;cases e
 |some ds=>
  rw [he]at e;dsimp only at e
  by_cases hz:(D.obj c [] []::(ds++dds)).length=n
  · rw [if_pos hz]at e
    refine h H0 av A σ H δ E ds he _ λvs H1 s1 r1 x dx hx hdx hne => ?_
    have E1:=E.mono s1;have s2:Same H1 (upd (upd H1 dx (.own x)) x (.ins (G.1.c c) dx [])):=(Yh hdx).trans (Yh (by rw [Zc (Ne.symm hne)];exact hx));have nx:¬AV av A x:=λz=>E1.avl x z hx
    refine⟨x,vs++dds.map val,AV av A,ds++dds,.obj c [] [],d,rfl,λa z => ?_,nx,⟨dx,[],Zm,rfl,.nil⟩,?_,hz,e,λH' hk ho=>⟨rfl,k _ H' ?_ ?_⟩⟩
    · have:=E1.avl a z
      cases q:H1 a with
      |none=>exact absurd q this
      |some o=>rw [s2 a o q];exact λz=>by cases z
    · refine RepL.same s2 ((r1.cl.append (.of_vals hd)).av λb z => ?_)
      rcases z with z|z
      · exact .inl z
      · exact .inr (by rw [z];exact hx)
    · refine s1.trans λb o e=>hk b o (λz=>by rw [z,hx]at e;cases e) (s2 b o e)
    · exact((ho.av λb z => .inl (.inl z)).rep nx).t
  · rw [if_neg hz]at e;cases e
def Zhz(i n:Nat)(m:List D->Option D)(dds:List D)(α:Env->Option (List D))(δ:Env):Option Out:=match Za i δ with
 |some d=>match α δ with
  |some ds=>if(d::(ds++dds)).length=n then(match m (d::(ds++dds))with
   |some d'=>some (.nx (δ.set i (some d')))
   |none=>none)else none
  |none=>none
 |none=>none
def runI(N:Nat)(φ:Env->Option Out)(ds:List D):Option D:=match φ (ds.map some++List.replicate (N-ds.length) none)with
 |some (.nx δ)=>Za 0 δ
 |_=>none
section
variable{P:Program}{w:World}{K:PySem.W.Frag}{mg:Str->Option Value}{base:Heap}
theorem Zkx {x qual:Str} {st:Stmt} {f:Addr} {fd:FuncData} {N ps:List Str} {k:Nat} {φ:Env->Option Out} (F:FunX K x qual st f fd) (S:FnScope N ps (defScope st))
 (hbody:∀(cdv:Value)(A:Around)(outer:List PySem.Env)(s:Shared)(H:Hp)(E:XK)(a:Addr),Room k (A.deeper (PyProof.Rows.envOfC qual (defScope st) s.heap.objs.size f cdv)) ->
   ∃t,PSs (Yg CX0 P w K mg base N qual (defScope st) f cdv A outer s H E).nox (defBody st) t/\VS ⟨cA,λj=>if j=0 then some (.inl a)else none⟩ [0] [0] [] [] t φ):FnOk P w K mg base CX0 (k+1) f fd ps (spI cA ps.length (runI N.length φ)):=by
 refine F.ok S (λvs H Q E h => ?_) λcdv A outer s H vs Q E hr h => ?_
 · obtain⟨x,r,av,ds,d,d',rfl,_,_,_,l,hl,_⟩:=h
   rw [<-hl,List.length_cons,List.length_cons,l.length]
 · obtain⟨x,r,av,ds,d,d',rfl,ha,nx,ho,l,hl,hm,q⟩:=h
   obtain⟨t,ht,hv⟩:=hbody cdv A outer s H E x hr;refine⟨t,ht,?_⟩;unfold runI at hm;cases hφ:φ ((d::ds).map some++List.replicate (N.length-(d::ds).length) none)with
   |none=>rw [hφ]at hm;cases hm
   |some o=>
    rw [hφ]at hm;cases o<;>first|(cases hm;done)|skip
    rename_i δ';have hm:Za 0 δ'=some d':=hm
    have hAV:∀b,AV av (λj=>if j=0 then some x else none) b ↔ av b\/b=x:=λb=>by
     constructor
     · rintro(z|⟨j,z⟩)
       · exact .inl z
       · by_cases e:j=0
         · simp [e]at z;exact .inr z.symm
         · simp [e]at z
     · rintro(z|z)
       · exact .inl z
       · exact .inr ⟨0,by simp [z]⟩
    have E0:ER ⟨cA,λj=>if j=0 then some (.inl x)else none⟩ [0] (λb=>if b=x then none else H b) av (λj=>if j=0 then some x else none) (L2.start N (.ref x::r)) H ((d::ds).map some++List.replicate (N.length-(d::ds).length) none):=by
     refine⟨λb o e => ?_,λa z => ?_,λi a e => ?_,λi j a e1 e2 => ?_,λi a e => ?_,λi e => ?_,λi hi => ?_,?_,(λi a e=>by
      by_cases q:i=0
      · simp [q]at e;simp [q,e]
      · simp [q]at e),(λi v e=>by
      by_cases q:i=0
      · simp [q]at e
      · simp [q]at e),λi d'' e => ?_⟩
     · by_cases q:b=x
       · simp [q]at e
       · simpa [q]using e
     · have:a≠x:=λq=>nx (q▸z)
       simp [this];exact ha a z
     · by_cases q:i=0
       · simp [q]at e;simp [e]
       · simp [q]at e
     · by_cases q:i=0
       · by_cases q2:j=0
         · rw [q,q2]
         · simp [q2]at e2
       · simp [q]at e1
     · by_cases q:i=0
       · simp [q]at e;subst e;exact ho.live
       · simp [q]at e
     · by_cases q:i=0
       · simp [q]
       · simp [q]at e
     · have:i=0:=by simpa using hi
       simp [this]
     · unfold L2.start
       rw [List.length_append,List.length_append,List.length_map,List.length_map,List.length_replicate,List.length_replicate,List.length_cons,List.length_cons,l.length]
     · by_cases q:i=0
       · subst q
         have e':d=d'':=by simpa using e
         subst e'
         exact⟨.ref x,by simp [L2.start],λz=>by simp at z,λa z=>by
          simp at z;subst z;exact⟨rfl,ho.av λb z => .inl ((hAV b).mp z)⟩⟩
       · obtain⟨i,rfl⟩:∃i',i=i'+1:=⟨i-1,by omega⟩
         have e2:(ds.map some++List.replicate (N.length-(ds.length+1)) none)[i]? = some (some d''):=by simpa using e
         by_cases hi:i<ds.length
         · rw [List.getElem?_append_left (by simpa using hi),List.getElem?_map]at e2
           cases hd:ds[i]? with
           |none=>rw [hd]at e2;cases e2
           |some z=>
            rw [hd]at e2;cases e2;obtain⟨v,hv',rv⟩:=l.get hd;refine⟨v,?_,λ_=>rv.av λb z => .inl ((hAV b).mp z),λa z=>by simp at z⟩;unfold L2.start;have:i+1<(V.ref x::r).length:=by rw [List.length_cons,<-l.length];omega
            rw [List.getElem?_append_left (by simpa using this),List.getElem?_map];simp [hv']
         · rw [List.getElem?_append_right (by simpa using hi),List.getElem?_replicate]at e2
           split at e2<;>cases e2
    refine hv _ av _ _ H _ E0 _ hφ _ λA' σ' H' E' => ?_
    have hA':A' 0=some x:=E'.pin 0 x (by simp);obtain⟨v,_,_,g3⟩:=E'.var 0 d' (ZT hm);obtain⟨_,ho'⟩:=g3 x hA';refine q H' (λb o hb e=>E'.same b o (by simpa [hb]using e)) (ho'.av λb z => ?_);rcases z with z|z
    · exact .inl (.inl z)
    · exact .inl (.inr ⟨0,by rw [hA',z]⟩)
theorem Zi8 {x qual:Str} {st:Stmt} {f:Addr} {fd:FuncData} {N ps:List Str} {k:Nat} {φ:Env->Option Out} (F:FunX K x qual st f fd) (S:FnScope N ps (defScope st))
 (hbody:∀(cdv:Value)(A:Around)(outer:List PySem.Env)(s:Shared)(H:Hp)(E:XK),Room k (A.deeper (PyProof.Rows.envOfC qual (defScope st) s.heap.objs.size f cdv)) ->
   ∃t,PSs (Yg CX0 P w K mg base N qual (defScope st) f cdv A outer s H E).nox (defBody st) t/\∃owN,VS ⟨cA,λ_=>none⟩ [] owN [] [] t φ):FnOk P w K mg base CX0 (k+1) f fd ps (spD cA ps.length (run N.length φ)):=by
 refine F.ok S (λvs H Q E h => ?_) λcdv A outer s H vs Q E hr h => ?_
 · obtain⟨av,ds,d,_,r,hl,_⟩:=h
   rw [<-r.length,hl]
 · obtain⟨av,ds,d,ha,r,hl,hm,q⟩:=h
   obtain⟨t,ht,owN,hv⟩:=hbody cdv A outer s H E hr;refine⟨t,ht,?_⟩;unfold run at hm;cases hφ:φ (ds.map some++List.replicate (N.length-ds.length) none)with
   |none=>rw [hφ]at hm;cases hm
   |some o=>
    rw [hφ]at hm;refine hv H av _ _ H _ (QM ha r) o hφ _ ?_;cases o with
    |nx δ'=>cases hm;exact λA' σ' H' E'=>q .non H' E'.same rfl
    |rt d'=>cases hm;exact λv H' s' r'=>q v H' s' r'
    |bk δ'=>cases hm
    |ct δ'=>cases hm
end
abbrev MTab:=List (String×(Nat×(List D->Option D)))
structure MethOk(X:Cx)(cA:Kn)(k:Nat)(m:String)(c:String)(n:Nat)(mm:List D->Option D):Prop where
 ex:∃f fd ps,Cls X.K (cA.c c)/\Meth X.K (cA.c c) (Str.ofString m) f/\FnOk X.prog X.w X.K X.mg X.base CX0 k f fd ps (spD cA n mm)/\Binds X.K fd ps []
def MTOk(X:Cx)(cA:Kn)(k:Nat)(m:String):MTab->Prop
 | []=>True
 |(c,n,mm)::r=>MethOk X cA k m c n mm/\MTOk X cA k m r
theorem MTOk.get{X:Cx}{k:Nat}{m:String}:∀{tab:MTab}{c:String}{n:Nat}{mm:List D->Option D},MTOk X cA k m tab->tab.lookup c=some (n,mm)->MethOk X cA k m c n mm
 | [],_,_,_,_,h=>by simp at h
 |(c',n',mm')::r,c,n,mm,T,h=>by
  rw [List.lookup_cons]at h;cases hc:c == c' with
  |true=>
   rw [hc]at h;cases h;have:c=c':=eq_of_beq hc;subst this;exact T.1
  |false=>
   rw [hc]at h;exact MTOk.get T.2 h
def Zfw(cA:Kn)(m:String)(tab:MTab)(ta:TE)(t:TA):TE:=λσ H Q=>ta σ H λx H1=>∃a dx fs c n mm,x = .ref a/\H1 a=some (.ins (cA.c c) dx fs)/\fs.lookup (Str.ofString m)=none/\tab.lookup c=some (n,mm)/\t σ H1 λvs H2=>spD cA n mm (x::vs) H2 Q E0
theorem Zd5 {X:Cx} {k:Nat} {m:String} {tab:MTab} {o:Expr} {ta:TE} {pos apos:Pos} {pl:Sem Bool} (T:MTOk X cA k m tab) (hr:Room k X.A) (he:PE X o ta)
 (ht:eval (.Call (.Attribute o (Str.ofString m) apos) [] [] pos) X.env=(do
   let ov <-eval o X.env
   standAt apos.atName
   let(f,first) <-holding [ov] (getMethod ov (Str.ofString m) pl)
   callWith pos f first (backTo pos (starEach [] X.env)) (backToKw pos (keywordEach [] X.env))):=by rfl) :
 PE X (.Call (.Attribute o (Str.ofString m) apos) [] [] pos) (Zfw cA m tab ta tNil):=by
 intro pins s σ H Q I h;refine PySem.W.methodCall_KW (pl:=pl) (thn (he pins s σ H _ I h) λu s1 ⟨x,H1,I1,rx,a,dx,fs,c,n,mm,ex,ea,l,tl,q⟩ => ?_) ht;subst ex;obtain rfl:u=Value.ref a:=rx;obtain⟨f,fd,ps,hc,hm,F,hb⟩:=(T.get tl).ex;refine Zcq I1 ea hc hm l ?_;exact PySem.W.callWith_K0 (first:=[.ref a]) I1.kIn hm.kp (JJ (us:=[.ref a]) (vs:=[.ref a]) (dvs:=[]) (ds:=[]) F hr hb .nil Z9 I1 (.cons rfl .nil) (by rw [List.append_nil];exact q))
def Vf(m:String)(tab:MTab)(a:Env->Option D)(α:Env->Option (List D))(δ:Env):Option D:=match a δ with
 |some (.obj c ks xs)=>if ks.contains m then none else(match tab.lookup c with
  |some (n,mm)=>match α δ with
   |some ds=>if(D.obj c ks xs::ds).length=n then mm (.obj c ks xs::ds)else none
   |none=>none
  |none=>none)
 |_=>none
theorem Zgo{m:String}{tab:MTab}{ta:TE}{t:TA}{a:Env->Option D}{α:Env->Option (List D)}(ha:VE G ow ta .cl a)(h:VA G ow t .cl α):VE G ow (Zfw G.1 m tab ta t) .cl (Vf m tab a α):=λH0 av A σ H δ E d e Q k=>by
 unfold Vf at e;cases hx:a δ with
 |none=>rw [hx]at e;cases e
 |some x=>
  rw [hx]at e;cases x<;>first|(cases e;done)|skip
  rename_i c ks xs;dsimp only at e;cases hf:ks.contains m with
  |true=>rw [hf,if_pos rfl]at e;cases e
  |false=>
   rw [hf,if_neg Bool.false_ne_true]at e;cases htb:tab.lookup c with
   |none=>rw [htb]at e;cases e
   |some p=>
    obtain⟨n,mm⟩:=p;rw [htb]at e;dsimp only at e;cases he:α δ with
    |none=>rw [he]at e;cases e
    |some ds=>
     rw [he]at e;dsimp only at e
     by_cases hz:(D.obj c ks xs::ds).length=n
     · rw [if_pos hz]at e
       refine ha H0 av A σ H δ E _ hx _ λv H1 s1 r1 => ?_
       obtain⟨p,dx,vs,rfl,np,rd,zl,l⟩:=r1;refine⟨p,dx,_,c,n,mm,rfl,rd,Zb4 hf,htb,h H0 av A σ H1 δ (E.mono s1) ds he _ λws H2 s2 r2 => ?_⟩;have E2:=(E.mono s1).mono s2;refine⟨AV av A,.obj c ks xs::ds,d,E2.avl,.cons ?_ r2.cl,hz,e,λv H' s r=>k v H' ((s1.trans s2).trans s) r.t⟩;unfold Rep;exact⟨p,dx,vs,rfl,np,s2 _ _ rd,zl,l.same s2⟩
     · rw [if_neg hz]at e;cases e
def isD:D->D->Option D
 | .bl a,.bl b=>some (.bl (a == b))
 |_,_=>none
end
end DL
namespace DL
open PySem PySem.Spec L2
section
variable{cA:Kn}{G:Cn}{ow:List Nat}
end
end DL
namespace DL
open PySem PySem.Spec L2
section
variable{cA:Kn}{P:Program}{w:World}{K:PySem.W.Frag}{mg:Str->Option Value}{base:Heap}
theorem XQ {x qual:Str} {st:Stmt} {f:Addr} {fd:FuncData} {N ps:List Str} {k:Nat} {φ:Env->Option Out} {body:List Stmt} {scope:Scope} {n:Nat} {m:List D->Option D} (F:FunX K x qual st f fd) (S:FnScope N ps (defScope st)) (hS:defScope st=scope) (hB:defBody st=body)
 (hbody:∀(cdv:Value)(A:Around)(outer:List PySem.Env)(s:Shared)(H:Hp)(E:XK),Room k (A.deeper (PyProof.Rows.envOfC qual scope s.heap.objs.size f cdv)) ->
   ∃t,PSs (Yg CX0 P w K mg base N qual scope f cdv A outer s H E).nox body t/\∃owN,VS ⟨cA,λ_=>none⟩ [] owN [] [] t φ)  (hm:m=run N.length φ) (hn:ps.length=n):FnOk P w K mg base CX0 (k+1) f fd ps (spD cA n m):=by
 subst hS hB hm hn;exact Zi8 F S hbody
theorem Zi9 {x qual:Str} {st:Stmt} {f:Addr} {fd:FuncData} {N ps:List Str} {k:Nat} {φ:Env->Option Out} {body:List Stmt} {scope:Scope} {n:Nat} {m:List D->Option D} (F:FunX K x qual st f fd) (S:FnScope N ps (defScope st)) (hS:defScope st=scope) (hB:defBody st=body)
 (hbody:∀(cdv:Value)(A:Around)(outer:List PySem.Env)(s:Shared)(H:Hp)(E:XK)(a:Addr),Room k (A.deeper (PyProof.Rows.envOfC qual scope s.heap.objs.size f cdv)) ->
   ∃t,PSs (Yg CX0 P w K mg base N qual scope f cdv A outer s H E).nox body t/\VS ⟨cA,λj=>if j=0 then some (.inl a)else none⟩ [0] [0] [] [] t φ)  (hm:m=runI N.length φ) (hn:ps.length=n):FnOk P w K mg base CX0 (k+1) f fd ps (spI cA n m):=by
 subst hS hB hm hn;exact Zkx F S hbody
end
end DL
namespace DL
open PySem PySem.Spec L2 PyProof.Rows
section
variable{X:Cx}{K:PySem.W.Frag}{cA:Kn}
end
end DL
namespace L2
open PySem PySem.Spec PyProof.Rows
section
variable{X:Cx}{scope:Scope}{tn cn:List Str}{js:List Nat}{tg iter elt:Expr}{ifs:List Expr}{pos spos pos':Pos}{wi:TI}{g:TG}{tt:TT}{te:TE}
theorem Zgp {i:Nat} {x:Str} (hN:X.N.Nodup) (hi:X.N[i]? = some x) (hx:X.env.scope.names.lookup x=some .local) (hc:X.calm=true) (S:CompSc X scope tn cn js) (hI:PI X tg iter wi)
 (hg:∀C s₂ H₂ fp,PG (YW X scope (tn++cn) C s₂ H₂ fp) tg g) (ht:∀C s₂ H₂ fp,PTs (YW X scope (tn++cn) C s₂ H₂ fp) ifs tt) (he:∀C s₂ H₂ fp,PE (YW X scope (tn++cn) C s₂ H₂ fp) elt te)
 (hsw:swapsWith (.ListComp elt [⟨tg,iter,ifs,0⟩] scope pos) (some (.Name x pos')) spos.line X.env=pure true:=by rfl)
 (hs:∀x,foldedSetIterable iter X.env x=pure x:=by intro _;rfl) :
 PS X (.Assign [.Name x pos'] (.ListComp elt [⟨tg,iter,ifs,0⟩] scope pos) spos) (ZV (Qs wi g tt te tn.length js) (ZG i)):=by
 intro pins s σ H D I h;rw [exec_Assign_Name_used _ _ _ _ hsw];refine wpAny_bind (wpAny_standAt (wpAny_bind ?_));show wpAny _ X.A (do let _ <-comprehension (.ListComp elt [⟨tg,iter,ifs,0⟩] scope pos) scope X.env _ (newList []) false (eval iter X.env) (some (assign (.Name x pos') X.env))) _ _ s
 refine wpAny_bind (wpAny_mono (wpAny_comprehension_free (use:=some (assign (.Name x pos') X.env)) (Q:=λ_ s'=>SP X pins D .next s') (cl:=Yt X.env.cells scope.names []) rfl hs (Zac (S.clos I.ok)) S.kind S.names
  (thn (hI pins s σ H _ I h) λv s1 h1=>thn h1 λitv s2 h2 => ?_)) (λ_ s' hq=>wpAny_pure (wpAny_pure hq)) λ_ _ e=>e)
 obtain⟨it,fp,tnx,J,H2,e,I2,T,st2,f2,W,⟨m0,w0⟩,turn⟩:=h2;subst e;refine ZaA (RR:=λacc C=>compPost (model X.prog X.w) X.A X.xe (some (assign (.Name x pos') X.env)) (λ_ s'=>SP X pins D .next s') acc C) (W:=W) (m0:=m0) hc S hg ht he I2 T st2 f2 w0 λi' m ys H w => ?_
 rcases turn i' m ys H w with⟨stop,qn⟩|r
 · refine .inl ⟨stop,λC D' s its n σ' hC hD hDC hv hz I' => ?_⟩
   obtain⟨m',hn,_⟩:=id I'.loc;have pd:=I'.pin (D',{ cls := .type "list",data := .seq its.toArray n }) (List.mem_append_right _ List.mem_cons_self);have hCf:H C=none:=I'.free;have I1:Inv X pins σ (upd H D' (.lst ys)) { s with heap:=s.heap }:=ZbX S I2 hC hD hDC f2 I' hv hz (Heap.SameBut.refl _ _);show wpAny _ X.A (assign (.Name x pos') X.env (.ref D')) _ _ _;have hlC:X.env.locals≠C:=λz=>absurd (z▸I2.lt) (Nat.not_lt.mpr hC)
   have hcC:∀y c,X.env.cells.lookup y=some c->c≠C:=λy c e z=>by
    obtain⟨v',o',q,_⟩:=I2.cell y c e;exact absurd (Heap.lt_size q) (Nat.not_lt.mpr (z▸hC))
   refine wpAny_assign_Name (ZaT I1 hN hi (.inl hx) (v:=.ref D') rfl (λs3 I3 ⟨a,hsb,ha⟩ => ?_) (.inr hx))
   have hCa:C≠a:=by
    rcases ha with rfl|ha
    · exact Ne.symm hlC
    · exact Ne.symm (hcC _ _ ha)
   refine⟨m',hn.sameBut hsb hCa,λh' hs' => ?_⟩;have hCn:upd H D' (.lst ys) C=none:=by rw [Zc (Ne.symm hDC)];exact hCf
   have I4:Inv X pins (σ.set i (some (.ref D'))) (upd H D' (.lst ys)) { s3 with heap:=h',toks:=s3.toks }:=I3.turned (it:=C) (λb o hb e=>(hs'.2 b hb).trans e) hCn (Ne.symm hlC) (.inr (Nat.le_trans (Nat.le_trans I2.ok.above (Nat.le_of_lt I2.lt)) hC)) (λy c e=>hcC y c e) λp hp z=>by
    have:=(I2.pin p hp).1;exact absurd (Heap.lt_size this) (Nat.not_lt.mpr (z▸hC))
   exact⟨_,_,I4,qn D' pd.2.1⟩
 · exact .inr r
end
end L2
namespace L2
open PySem PySem.Spec PyProof.Rows Builtin Builtin.Str
section
variable{X:Cx}
end
end L2
namespace DL
open PySem PySem.Spec L2
variable{cA:Kn}
end DL
namespace PySem
open Builtin SmallTypes
open AutoSeq1 (wpAny_loadPart')
end PySem
namespace PySem
open Sem (wp)
end PySem
namespace PySem
open Sem (wp)
section
variable{P:Program}{w:World}{A:Around}{E:Value->Shared->Prop}{s:Shared}
end
end PySem
namespace L2
open PySem PySem.Spec PyProof.Rows
end L2
namespace L2
open PySem PySem.Spec PyProof.Rows
section
variable{X:Cx}{elts:List Expr}{x1:Nat}{tpos:Pos}
end
end L2
namespace DL
open PySem PySem.Spec L2
section
variable{cA:Kn}{G:Cn}{ow:List Nat}
end
end DL
namespace PySem
open Builtin SmallTypes
open AutoSeq1 (wpAny_loadPart')
end PySem
namespace PySem
section
variable{P:Program}{w:World}{A:Around}{E:Value->Shared->Prop}{s:Shared}
end
end PySem
namespace L2
open PySem PySem.Spec PyProof.Rows
section
variable{X:Cx}{elts:List Expr}{x1:Nat}{tpos:Pos}
end
end L2
namespace DL
open PySem PySem.Spec L2
section
variable{cA:Kn}{G:Cn}{ow:List Nat}
end
end DL
namespace DL
open PySem PySem.Spec L2 PyProof.Rows
def Wd(i:Int):Prop:=i.natAbs<2 ^ 8000
instance (i:Int):Decidable (Wd i):=by unfold Wd;infer_instance
def CMulW(i j:Int):Prop:=(Wd i/\Wd j)\/CMul i j
instance (i j:Int):Decidable (CMulW i j):=by unfold CMulW;infer_instance
def ZhA(_ j:Int):Prop:=j≠0/\Wd j
instance (i j:Int):Decidable (ZhA i j):=by unfold ZhA;infer_instance
instance (i j:Int):Decidable (Zj2 i j):=by unfold Zj2;infer_instance
theorem Zia{i:Int}(h:Wd i)(h0:i≠0):i.natAbs.log2<8000:=(Nat.log2_lt (by omega)).mpr h
theorem CMulW.ok{i j:Int}(h:CMulW i j):IntMulOk i j:=by
 rcases h with⟨h1,h2⟩|h
 · have bits : ∀ {a : Int}, Wd a -> Builtin.Int.intBits a <= 2 ^ 20 := fun {a} ha => by
    unfold Builtin.Int.intBits
    by_cases h0:a=0
    · subst h0;decide
    · have:=Zia ha h0
      have e:(2:Nat) ^ 20=1048576:=by decide
      rw [e]
      split<;>omega
   exact .of_bits (bits h1) (bits h2)
 · exact h.ok
section
variable{X:Cx}{cA:Kn}
theorem op_mulW:OpR X (binaryOp .Mult) (rI CMulW λi j => .int (i*j)):=opI λ_ _ _ _ _ _ _ hc q=>mul_int q hc.ok
end
end DL
namespace L2
open PySem PySem.Spec PySem.W PyProof.Rows
def bmV:List Value:=[.type "ValueError",.type "Exception",.type "BaseException",.type "object"]
section
variable{X:Cx}{E:XK}{C:Addr}{x:Str}{p cpos pos:Pos}{e:Expr}{es:List Expr}{t:TA}
end
def CX1(P:Program)(w:World):CXT:=λouter H s E ev s'=>∃(ea:Addr) (cls a0:Value) (B:Heap) (H':Hp),ev = .ref ea/\s'.os=s.os/\AllBare s'.gens/\Heap.FlyingW B outer ea cls a0 s'.heap /\
 (∀b o,s.heap.get? b=some o->H b=none->b∉frs outer->B.get? b=some o)/\HOk P w H' B/\Same H H'/\(∀b o,s.heap.get? b=some o->H b=none->H' b=none)/\(∀b o,s.heap.get? b=some o->b∈frs outer->∃sl,s'.heap.get? b=some { o with slots:=sl })/\E cls none H'
section
variable{P:Program}{w:World}{K:PySem.W.Frag}{mg:Str->Option Value}{base:Heap}{N:List Str}{qual:Str}{scope:Scope}{f:Addr}{cd:Value}{A:Around}{outer:List Env}{s:Shared}{H:Hp}{E:XK}
end
end L2
namespace L2
open PySem PySem.Spec PySem.W PyProof.Rows PySem.Calls PySem.Builtin PySem.Builtin.ObjectAttr PySem.Builtin.Getset_descriptor
def Zja(e:Addr)(C:Value)(hp:Heap):Prop:=∃o:Obj,hp.get? e=some o/\o.cls=C
structure ExCls(K:PySem.W.Frag)(C:Addr):Prop where
 ex:excIn K C bmV "ValueError.__new__" = true
 ga:findIn K (.ref C) "__getattribute__" = some (some (.builtin "BaseException.__getattribute__"))
 mb:mroIn K C (.type "BaseException")=some true
 gt:findIn K (.ref C) "__getattr__" = some none
 ca:findIn K (.ref C) "__class__" = some (some (.builtin "object.__class__"))
 cg:specialIn K (.builtin "object.__class__") "__get__" = some (some (.builtin "getset_descriptor.__get__"))
 ct:takesIn K (.builtin "object.__class__")=some true
 mo:mroIn K C (.type "object")=some true
 cl:(clsIn K C).isSome=true
section
variable{P:Program}{w:World}{A:Around}{E:Value->Shared->Prop}{s:Shared}{K:PySem.W.Frag}{e C:Addr}
end
end L2
namespace L2
open PySem PySem.Spec PySem.W PyProof.Rows
theorem ObjOk.there{P:Program}{w:World}{H:Hp}{hp:Heap}{a:Addr}{o:HO}(x:ObjOk P w H hp a o):∃u,hp.get? a=some u:=by
 cases o with
 |lst xs=>obtain⟨_,_,_,_,e⟩:=x;exact⟨_,e⟩
 |tup xs=>obtain⟨_,_,_,ob,e,_⟩:=x;exact⟨_,e⟩
 |dK kvs=>obtain⟨_,_,_,_,o,_,_,e,_⟩:=x;exact⟨_,e⟩
 |dT kvs=>obtain⟨_,_,_,_,o,_,_,e,_⟩:=x;exact⟨_,e⟩
 |set S n=>obtain⟨o,_,_,_,e,_⟩:=x;exact⟨_,e⟩
 |ins C dx fs=>obtain⟨_,_,_,e,_⟩:=x;exact⟨_,e⟩
 |own y=>exact x
 |xd fs=>obtain⟨_,⟨_,_,_,e,_⟩,_⟩:=x;exact⟨_,e⟩
 |rng lo hi=>obtain⟨_,_,_,e⟩:=x;exact⟨_,e⟩
 |frz ob u=>obtain⟨e,_⟩:=x;exact⟨_,e⟩
 |tbl ps=>obtain⟨_,e,_⟩:=x;exact⟨_,e⟩
 |cod q=>obtain⟨_,_,_,_,e,g,_⟩:=x;cases e;exact⟨_,g⟩
 |met f y=>exact⟨_,x⟩
 |ext φ=>exact x.2.1
section
variable{X:Cx}{pins:List (Addr×Obj)}{σ:St}{H H':Hp}{s s':Shared}{B hp:Heap}{ea:Addr}{C:Value}
end
section
variable{X:Cx}{E:XK}
end
end L2
namespace L2
open PySem PySem.Spec PySem.W PyProof.Rows
section
variable{X:Cx}{G:Addr}{g n:Str}{i:Nat}{body suite:List Stmt}{b₀:Stmt}{gp hpos pos:Pos}{tb:XK->TS}{ts:Addr->Addr->TS}
end
end L2
namespace DL
open PySem PySem.Spec L2
def spX(cA:Kn)(n:Nat)(m:List D->Option D)(x:List D->Option String):Sp:=λvs H Q E=>spD cA n m vs H Q E \/
 ∃(av:Addr->Prop) (ds:List D) (c:String),(∀a,av a->H a≠none)/\RepL cA av H ds vs/\ds.length=n/\x ds=some c/\∀H',Same H H'->E (.ref (cA.c c)) none H'
def VX(G:Cn)(ow:List Nat)(E:XK)(ts:TS)(χ:Env->Option String):Prop:=
 ∀H0 av A σ H δ,ER G ow H0 av A σ H δ->∀c,χ δ=some c->(∀H',Same H0 H'->E (.ref (G.1.c c)) none H')->∀De:Ends,ts De σ H
section
variable{cA:Kn}{G:Cn}{ow ow1 owB owC owN:List Nat}{E:XK}
end
section
variable{P:Program}{w:World}{K:PySem.W.Frag}{mg:Str->Option Value}{base:Heap}{cA:Kn}
end
end DL
namespace DL
open PySem PySem.Spec L2
def Zky(K:PySem.W.Frag)(cA:Kn)(v:V)(tab:List (String×Bool)):Prop:=∀c b,tab.lookup c=some b->∃cv,(∀u,RelV v u->u=cv)/\kitOne K (.ref (cA.c c)) cv=some b
inductive IsiEs(K:PySem.W.Frag)(cA:Kn):List V->List (List (String×Bool))->Prop where
 |nil:IsiEs K cA [] []
 |cons {v:V} {t:List (String×Bool)} {vs:List V} {ts:List (List (String×Bool))}:Zky K cA v t->IsiEs K cA vs ts->IsiEs K cA (v::vs) (t::ts)
section
variable{cA:Kn}{G:Cn}{ow owB owC:List Nat}
theorem ER.none{H0 H:Hp}{av:Addr->Prop}{A:Nat->Option Addr}{σ:L2.St}{δ:Env}{i:Nat}{x:Option V}(R:ER G ow H0 av A σ H δ)(hi:ow.contains i=false)(hn:G.2 i=Option.none):ER G ow H0 av A (σ.set i x) H (δ.set i Option.none):=
 ⟨R.same,R.avd,R.fr,R.inj,R.live,R.dom,R.dom',by rw [List.length_set,List.length_set];exact R.len,R.pin,(λj v' e=>by
   have q:j≠i:=λz=>by rw [z,hn]at e;cases e
   rw [List.getElem?_set_ne (Ne.symm q)];exact R.kept j v' e),λj d e=>by
   have hj:j≠i:=by
    intro z;subst z
    by_cases hl:j<δ.length
    · rw [List.getElem?_set_self hl]at e;cases e
    · rw [List.getElem?_eq_none (by rw [List.length_set];omega)]at e;cases e
   rw [List.getElem?_set_ne (Ne.symm hj)]at e;obtain⟨v,h1,h2⟩:=R.var j d e;exact⟨v,by rw [List.getElem?_set_ne (Ne.symm hj)];exact h1,h2⟩⟩
end
end DL
namespace L2
open PySem PySem.Spec PyProof.Rows
section
variable{X:Cx}
def ZhB(K:PySem.W.Frag):R2:=λx y H Q=>∃l b xs zs,x = .ref l/\y = .ref b/\SqL K H l xs/\SqL K H b zs/\xs.length+zs.length<=sizeLine/\∀p,H p=none->Q (.ref p) (upd H p (.lst (xs++zs)))
theorem Zgq:OpR X (binaryOp .Add) (ZhB X.K):=by
 intro pins s σ H x y v u Q I rx ry h;obtain⟨l,b,xs,zs,rfl,rfl,hH,hB,hz,q⟩:=h;cases rx;cases ry;obtain⟨its,r,pl,_⟩:=I.list hH;obtain⟨its2,r2,pl2,_⟩:=I.list hB;obtain⟨⟨c1,d1,da1,sl1⟩,n1,g1,e1,e2,e3⟩:=pl;obtain⟨⟨c2,d2,da2,sl2⟩,n2,g2,f1,f2,f3⟩:=pl2;dsimp only at e1 e2 e3 f1 f2 f3;subst e1 e2 e3 f1 f2 f3;have hl:=r.length;have hl2:=r2.length;refine concat_meets ⟨_,g1,rfl⟩ ⟨_,g2,rfl⟩ noFill_list_add seq_list_add PySem.F.slot_list_add PySem.F.entry_list_add (PySem.F.args_list_add_2 _ _) (list_addW l b its.toArray its2.toArray n1 n2 none none sl1 sl2 (by rw [List.size_toArray,List.size_toArray];omega)) ⟨g1,g2,?_⟩
 have ea:its.toArray++its2.toArray=(its++its2).toArray:=by simp
 rw [ea];exact⟨.ref _,_,I.lnew (t':=s.toks) (r.append r2) (by rw [List.length_append];omega),rfl,q _ I.fresh⟩
def ZhC(K:PySem.W.Frag):R2:=λx y H Q=>∃l k xs,x = .ref l/\y = .int k/\SqL K H l xs /\ -(2 ^ 63)<=k/\k<2 ^ 63/\xs.length*k.toNat<=sizeLine/\∀p,H p=none->Q (.ref p) (upd H p (.lst (List.replicate k.toNat xs).flatten))
theorem Zgr:OpR X (binaryOp .Mult) (ZhC X.K):=by
 intro pins s σ H x y v u Q I rx ry h;obtain⟨l,k,xs,rfl,rfl,hH,h1,h2,hz,q⟩:=h;cases rx;obtain⟨t,rfl⟩:=ry;obtain⟨its,r,pl,_⟩:=I.list hH;obtain⟨⟨c1,d1,da1,sl1⟩,n1,g1,e1,e2,e3⟩:=pl;dsimp only at e1 e2 e3;subst e1 e2 e3;have hl:=r.length;have hlen:its.toArray.size*k.toNat<=sizeLine:=by rw [List.size_toArray,<-hl];exact hz
 have hcap:¬its.toArray.size*k.toNat>(2 ^ 63-1) / 8:=by
  have:(sizeLine:Nat)<=(2 ^ 63-1) / 8:=by decide
  omega
 have hfit:¬(!Builtin.List.listFitsIndex k)=true:=by
  rw [fitsIndex_both h1 h2];exact Bool.false_ne_true
 have hlong:¬Builtin.List.listTooLong (its.toArray.size*k.toNat)=true:=by
  rw [JQ hlen];exact Bool.false_ne_true
 have hnew:List.foldl (λx1 x2=>x1++x2) #[] (List.replicate (if its.toArray.isEmpty=true then 0 else k.toNat) its.toArray)=(List.replicate k.toNat its).flatten.toArray:=by
  have f0:∀m:Nat,List.foldl (λx1 x2=>x1++x2) #[] (List.replicate m its.toArray)=(List.replicate m its).flatten.toArray:=λm=>by
   have:=Za1 its m [];rw [List.nil_append]at this;exact this
  rw [f0];cases its with
  |nil=>simp
  |cons a r'=>rw [if_neg (by simp)]
 refine wpAny_binaryOp_repeat_ref (T:="list") (U:="int") (by decide) ⟨_,g1,rfl⟩ (λs'=>typeIs_int s' k t) noFill_list_mul F.fills_int_mul F.slot_int_rmul repeat_list F.slot_int_index.lookup
  (call_meets F.slot_int_rmul (typeIs_int s k t) F.entry_int_rmul (F.args_int_rmul_2 _ _) (lm_int_rmul_list_any k t l its.toArray n1 none sl1)
    ⟨g1,rfl,⟨_,g1,rfl⟩,call_meets F.slot_list_mul ⟨_,g1,rfl⟩ F.entry_list_mul (F.args_list_mul_2 _ _) (lm_list_mul_any l its.toArray n1 none sl1 k t hfit hcap hlong) ⟨g1,?_⟩⟩)
 rw [hnew];exact⟨.ref _,_,I.lnew (t':=s.toks) (r.rep k.toNat) (by rw [Zgf,Nat.mul_comm];exact hz),rfl,q _ I.fresh⟩
def QP(K:PySem.W.Frag):R2:=λx y H Q=>rI0 (λi j => .int (i+j)) x y H Q\/rAddS x y H Q\/ZhB K x y H Q
theorem Zgs:OpR X (binaryOp .Add) (QP X.K):=op_add.or (op_addS.or Zgq)
theorem YO{K:PySem.W.Frag}(hK:X.K=K:=by rfl):OpR X (binaryOp .Add) (QP K):=hK▸Zgs
def ZfZ(K:PySem.W.Frag):R2:=λx y H Q=>rI DL.CMulW (λi j => .int (i*j)) x y H Q\/DL.rMulS x y H Q\/ZhC K x y H Q
theorem Zgt:OpR X (binaryOp .Mult) (ZfZ X.K):=DL.op_mulW.or (DL.op_mulS.or Zgr)
theorem Ug{K:PySem.W.Frag}(hK:X.K=K:=by rfl):OpR X (binaryOp .Mult) (ZfZ K):=hK▸Zgt
end
end L2
namespace DL
open PySem PySem.Spec L2
section
variable{cA:Kn}{G:Cn}{ow owB owC:List Nat}
theorem Zdh{i:Addr->Prop}{H:Hp}{p:Addr}{xs:List D}{vs:List V}(hi:∀a,i a->H a≠none)(hp:H p=none)(l:RepL cA i H xs vs):Rep cA i (upd H p (.lst vs)) (.lst xs) (.ref p):=by
 unfold Rep;exact⟨p,vs,rfl,λz=>(hi p z hp).elim,SqL.of Zm,l.same (Yh hp)⟩
def addX:D->D->Option D
 | .lst a,.lst b=>if a.length+b.length<=sizeLine then some (.lst (a++b))else none
 |x,y=>addD x y
theorem YQ:Y7 cA (QP cA.K) addX:=λt t' i H x y vx vy d hi hx hy e Q k=>by
 have old:addD x y=some d->QP cA.K vx vy H Q:=λe=>by
  rcases(Zh7 (cA:=cA) t t' i H x y vx vy d hi hx hy e Q k)with h|h|h
  · exact .inl h
  · exact .inr (.inl h)
  · obtain⟨l,b,xs,zs,e1,e2,h1,h2,h3,h4⟩:=h
    exact .inr (.inr ⟨l,b,xs,zs,e1,e2,SqL.of h1,SqL.of h2,h3,h4⟩)
 cases x with
 |lst a=>
  cases y with
  |lst b=>
   dsimp only [addX]at e
   by_cases hz:a.length+b.length<=sizeLine
   · rw [if_pos hz]at e
     cases e;obtain⟨a1,vs1,rfl,_,r1,l1⟩:=hx;obtain⟨a2,vs2,rfl,_,r2,l2⟩:=hy;exact .inr (.inr ⟨a1,a2,vs1,vs2,rfl,rfl,r1,r2,by rw [<-l1.length,<-l2.length];exact hz,λp hp=>k _ _ (Yh hp) (Zdh hi hp (l1.append l2))⟩)
   · rw [if_neg hz]at e;cases e
  |_=>exact old e
 |_=>exact old e
theorem RepL.rep{av:Addr->Prop}{H:Hp}{xs:List D}{vs:List V}(l:RepL cA av H xs vs):∀n:Nat,RepL cA av H (List.replicate n xs).flatten (List.replicate n vs).flatten
 |0 => .nil
 |n+1=>by
  rw [List.replicate_succ,List.replicate_succ,List.flatten_cons,List.flatten_cons];exact l.append (RepL.rep l n)
def mulX:D->D->Option D
 | .int i,.int j=>if CMulW i j then some (.int (i*j))else none
 | .str a,.int n=>if n<2 ^ 63 /\ -(2 ^ 63)<=n/\a.length*n.toNat<=sizeLine then some (.str (V9 a n))else none
 | .lst a,.int n=>if n<2 ^ 63 /\ -(2 ^ 63)<=n/\a.length*n.toNat<=sizeLine then some (.lst (List.replicate n.toNat a).flatten)else none
 |_,_=>none
theorem Uh:Y7 cA (ZfZ cA.K) mulX:=λt t' i H x y vx vy d hi hx hy e Q k=>by
 cases x<;>cases y<;>first|(cases e;done)|skip
 · cases(show vx=_ from hx);cases(show vy=_ from hy)
   rename_i a b;dsimp only [mulX]at e
   by_cases hz:CMulW a b
   · rw [if_pos hz]at e
     cases e;exact .inl ⟨_,_,rfl,rfl,hz,k _ H (Same.refl H) rfl⟩
   · rw [if_neg hz]at e;cases e
 · cases(show vx=_ from hx);cases(show vy=_ from hy)
   rename_i a n;dsimp only [mulX]at e
   by_cases hz:n<2 ^ 63 /\ -(2 ^ 63)<=n/\a.length*n.toNat<=sizeLine
   · rw [if_pos hz]at e
     cases e;exact .inr (.inl ⟨_,_,rfl,rfl,hz,k _ H (Same.refl H) rfl⟩)
   · rw [if_neg hz]at e;cases e
 · rename_i a n
   cases(show vy=_ from hy);dsimp only [mulX]at e
   by_cases hz:n<2 ^ 63 /\ -(2 ^ 63)<=n/\a.length*n.toNat<=sizeLine
   · rw [if_pos hz]at e
     cases e;obtain⟨a1,vs1,rfl,_,r1,l1⟩:=hx;exact .inr (.inr ⟨a1,n,vs1,rfl,rfl,r1,hz.2.1,hz.1,by rw [<-l1.length];exact hz.2.2,λp hp=>k _ _ (Yh hp) (Zdh hi hp (l1.rep n.toNat))⟩)
   · rw [if_neg hz]at e;cases e
def UT(i:Nat)(κ ε:Env->Option D)(δ:Env):Option Out:=match ε δ with
 |some d=>match Za i δ with
  |some (.lst xs)=>match κ δ with
   |some (.int k)=>match ixN xs.length k with
    |some j=>some (.nx (δ.set i (some (.lst (xs.set j d)))))
    |none=>none
   |_=>none
  |_=>none
 |none=>none
theorem Zgu{te ti:TE}{q:Ql}{ε κ:Env->Option D}(i:Nat)(hi:ow.contains i=true)(h:VE G ow te .cl ε)(hk:VE G ow ti q κ):VS G ow ow owB owC (ZV te (Jy (Zq i) ti rSetL)) (UT i κ ε):=λH0 av A σ H δ E o e De k=>by
 unfold UT at e;cases he:ε δ with
 |none=>rw [he]at e;cases e
 |some d=>
  rw [he]at e;dsimp only at e;cases hv:Za i δ with
  |none=>rw [hv]at e;cases e
  |some x=>
   rw [hv]at e;cases x<;>first|(cases e;done)|skip
   rename_i xs;dsimp only at e;cases hq:κ δ with
   |none=>rw [hq]at e;cases e
   |some y=>
    rw [hq]at e;cases y<;>first|(cases e;done)|skip
    rename_i n;dsimp only at e;cases hj:ixN xs.length n with
    |none=>rw [hj]at e;cases e
    |some j=>
     rw [hj]at e;cases e;have hi':i∈ow:=by simpa using hi
     cases hA:A i with
     |none=>exact absurd hA (E.dom' i hi')
     |some a=>
      refine h H0 av A σ H δ E d he _ λv H1 s1 r1 => ?_
      have E1:=E.mono s1;obtain⟨v0,h1,_,h3⟩:=E1.var i _ (ZT hv);obtain⟨rfl,vs,q1,q2⟩:=h3 a hA;refine⟨_,h1,hk H0 av A σ H1 δ E1 _ hq _ λy H2 s2 r2 => ?_⟩;have ey:y = .int n:=r2.any;subst ey;have E2:=E1.mono s2;have q1':=s2 _ _ q1;refine⟨a,vs,n,j,rfl,rfl,q1',by rw [<-q2.length];exact hj,k A σ _ (E2.put hA (ZT hv) (λb o hb e=>by rw [Zc hb];exact e) (by rw [Zm];exact λz=>by cases z) ⟨_,Zm,?_⟩)⟩
      have ex:∀b o,¬AV av A b->H2 b=some o->upd H2 a (.lst (vs.set j v)) b=some o:=λb o nb e=>by
       rw [Zc λz=>nb (.inr ⟨i,by rw [z];exact hA⟩)];exact e
      exact(((q2.same s2).set ((RepT.r r1).same s2) j)).ext ex
end
end DL
namespace L2
open PySem PySem.W
end L2
namespace DL
open L2
theorem VX.frz{G:Cn}{ow ow1:List Nat}{E:XK}{t:TS}{χ:Env->Option String}(i:Nat)(h:VX G ow1 E t χ)(hn:G.2 i=none)(h1:sub ow1 ow=true)(h2:ow1.contains i=false)(h3:sub ow (i::ow1)=true):VX G ow E t χ:=λH0 av A σ H δ R c e k De=>
 h H0 av _ σ H δ (R.freeze i (UQ h1 h2 h3) hn) c e k De
end DL
namespace L2
open PySem
end L2
namespace L2
open PySem
end L2
namespace L2
open PySem PySem.Spec PySem.W PyProof.Rows
section
variable{X:Cx}{e:Expr}{te:TE}{pos:Pos}
inductive PJ(X:Cx):List Expr->List TE->Prop where
 |nil:PJ X [] []
 |cons {e:Expr} {es:List Expr} {t:TE} {ts:List TE}:PE X e t->PJ X es ts->PJ X (e::es) (t::ts)
end
end L2
namespace DL
open PySem PySem.Spec L2
section
variable{G:Cn}{ow:List Nat}
inductive VJ(G:Cn)(ow:List Nat):List TE->List (Env->Option D)->Prop where
 |nil:VJ G ow [] []
 |cons {t:TE} {a:Env->Option D} {ts:List TE} {as:List (Env->Option D)}:VE G ow t .cl a->VJ G ow ts as->VJ G ow (t::ts) (a::as)
end
end DL
namespace L2
open PySem PySem.Spec PySem.W PyProof.Rows
section
variable{X:Cx}{E:XK}
end
end L2
namespace DL
open PySem PySem.Spec L2
abbrev XTab:=List (String×(Nat×(List D->Option D)×(List D->Option String)))
structure MethOkX(X:Cx)(cA:Kn)(k:Nat)(m:String)(c:String)(n:Nat)(mm:List D->Option D)(xm:List D->Option String):Prop where
 ex:∃f fd ps,Cls X.K (cA.c c)/\Meth X.K (cA.c c) (Str.ofString m) f/\FnOk X.prog X.w X.K X.mg X.base (CX1 X.prog X.w) k f fd ps (spX cA n mm xm)/\Binds X.K fd ps []
def MTOkX(X:Cx)(cA:Kn)(k:Nat)(m:String):XTab->Prop
 | []=>True
 |(c,n,mm,xm)::r=>MethOkX X cA k m c n mm xm/\MTOkX X cA k m r
theorem MTOkX.get{X:Cx}{cA:Kn}{k:Nat}{m:String}:∀{tab:XTab}{c:String}{n:Nat}{mm:List D->Option D}{xm:List D->Option String},MTOkX X cA k m tab->tab.lookup c=some (n,mm,xm)->MethOkX X cA k m c n mm xm
 | [],_,_,_,_,_,h=>by simp at h
 |(c',n',mm',xm')::r,c,n,mm,xm,T,h=>by
  rw [List.lookup_cons]at h;cases hc:c == c' with
  |true=>
   rw [hc]at h;cases h;have:c=c':=eq_of_beq hc;subst this;exact T.1
  |false=>
   rw [hc]at h;exact MTOkX.get T.2 h
section
variable{X:Cx}{cA:Kn}{k:Nat}{m:String}{tab:XTab}{o e:Expr}{es:List Expr}{ta:TE}{t:TA}{pos apos:Pos}{pl:Sem Bool}{E:XK}
end
section
variable{cA:Kn}{G:Cn}{ow ow1 owB owC owN:List Nat}{E:XK}
end
end DL
namespace L2
open PySem PySem.Spec PySem.W PyProof.Rows
theorem ZaB:∀(cs:List Nat)(its:List Value),its.length=cs.length->(∀(j:Nat)(v:Value),its[j]? = some v->∃(c:Nat) (u:Tok),cs[j]? = some c/\v=Value.str ⟨#[c]⟩ u)->Vals (cs.map λc=>S [c]) its
 | [],[],_,_ => .nil
 |c::cs,[],h,_=>by simp at h
 | [],v::its,h,_=>by simp at h
 |c::cs,v::its,h,k=>by
  refine .cons ?_ (ZaB cs its (by simpa using h) λj v hj=>by simpa using k (j+1) v (by simpa using hj));obtain⟨c',u,e1,e2⟩:=k 0 v rfl;cases e1;exact⟨u,e2⟩
def ZhD(K:PySem.W.Frag):List V->Hp->VK->Prop:=λxs H Q=>Zh2 K xs H Q\/∃cs,xs=[S cs]/\cs.length<=sizeLine/\∀l,H l=none->Q (.ref l) (upd H l (.lst (cs.map λc=>S [c])))
theorem Zcz{X:Cx}{K:PySem.W.Frag}(hc:X.calm=true:=by rfl)(hK:X.K=K:=by rfl):Yq X (.type "list") (ZhD K):=by
 subst hK;intro pins s σ H xs us Q I r h;rcases h with h|⟨cs,rfl,hz,q⟩
 · exact Zbl pins s σ H xs us Q I r h
 · obtain⟨u,rfl,rx⟩:=Y6 r
   obtain⟨t,rfl⟩:=rx;refine call_list_str (I.ok.hd hc) (tx cs) t (λh' tk acc' c' kp e hi => ?_) (by simpa using hz)
   have hv:Vals (cs.map λc=>S [c]) acc'.toList:=ZaB cs _ (by simpa using hi.1) λj v hj=>by
    obtain⟨c,u,e1,e2⟩:=hi.2 j v (by simpa using hj);exact⟨c,u,by simpa using e1,e2⟩
   exact⟨.ref s.heap.objs.size,_,I.laid (t':=tk) kp (Nat.le_refl _) (show ObjOk X.prog X.w _ h' _ (.lst _)from⟨by rw [List.length_map];exact hz,acc'.toList,c',hv,e⟩),rfl,q _ (I.hok.fresh (Nat.le_refl _))⟩
end L2
namespace DL
open PySem PySem.Spec L2
def UU:List D->Option D
 | [.str cs]=>if cs.length<=sizeLine then some (.lst (cs.map λc => .str [c]))else none
 |ds=>Zhx ds
section
variable{G:Cn}{ow:List Nat}
theorem ZaC{cA:Kn}{av:Addr->Prop}{H:Hp}:∀cs:List Nat,RepL cA av H (cs.map λc=>D.str [c]) (cs.map λc=>S [c])
 | [] => .nil
 |c::cs => .cons rfl (ZaC cs)
theorem ZeE{t:TA}{q:Ql}{α:Env->Option (List D)}(hq:q = .cl\/q = .tp)(h:VA G ow t q α):VF G ow (tCB (ZhD G.1.K) t) (eCB UU α):=λH0 av A σ H δ E d e Q k=>by
 unfold eCB at e;cases he:α δ with
 |none=>rw [he]at e;cases e
 |some ds=>
  rw [he]at e;replace e:UU ds=some d:=e;unfold UU at e
  split at e
  · rename_i cs
    by_cases hz:cs.length<=sizeLine
    · rw [if_pos hz]at e
      cases e;refine h H0 av A σ H δ E _ he _ λvs H1 s1 r1 => ?_
      have il:Ua G.1 (AV av A) H1 [.str cs] vs:=by
       rcases hq with rfl|rfl<;>exact r1.il
      obtain⟨v,t,rfl,hx⟩:=il1 il;cases(show v=_ from hx);exact .inr ⟨cs,rfl,hz,λp hp=>k p _ _ H1 s1 hp (ZaC cs) rfl⟩
    · rw [if_neg hz]at e;cases e
  · exact h H0 av A σ H δ E _ he _ fun vs H1 s1 r1 => by
     have il:Ua G.1 (AV av A) H1 ds vs:=by
      rcases hq with rfl|rfl<;>exact r1.il
     refine .inl ?_;unfold Zhx at e
     split at e
     · rename_i xs
       cases e;obtain⟨v,t,rfl,a,ws,rfl,_,rd,l⟩:=il1 il;exact⟨a,ws,rfl,.inl rd,λp hp=>k p ws _ H1 s1 hp l rfl⟩
     · rename_i xs
       cases e;obtain⟨v,t,rfl,a,ws,rfl,_,rd,l⟩:=il1 il;exact⟨a,ws,rfl,.inr (SqT.of rd),λp hp=>k p ws _ H1 s1 hp l rfl⟩
     · cases e
end
end DL
namespace L2
open PySem PySem.Spec PySem.W PyProof.Rows
structure RoomE(k:Nat)(A:Around):Prop where
 dp:A.depth+3*k+5<recursionLimit
 un:A.units+16*k+200<cLine
structure FnOkE(P:Program)(w:World)(K:PySem.W.Frag)(mg:Str->Option Value)(base:Heap)(k:Nat)(f:Addr)(fd:FuncData)(ps:List Str)(sp:List V->Hp->VK->Prop):Prop where
 len:∀vs H Q,sp vs H Q->vs.length=ps.length
 run:∀(A:Around)(outer:List PySem.Env)(s:Shared)(H:Hp)(args:Args)(us:List Value)(vs:List V)(Q:VK),RoomE k A->Env0 P w K mg base A outer s H->BindsTo s fd args (ps.zip us)->Vals vs us->sp vs H Q ->
  codeAny (model P w) A (.call (.ref f) args) (CR CX0 outer P w H s Q E0) s
end L2
namespace DL
open PySem PySem.Spec L2
def Zib(K:PySem.W.Frag)(cA:Kn)(i:Nat)(mk:Addr->Addr->TE)(tab:List (String×Bool)):Prop:=∀(c:String)(b:Bool)(ea:Addr)(σ:L2.St)(H:Hp)(Q:VK),ExCls K (cA.c c)->tab.lookup c=some b->σ[i]? = some (some (.ref ea))->H ea=some (.ext (Zja ea (.ref (cA.c c))))->(∀H',Same H H'->Q (.bl b) H')->mk (cA.c c) ea σ H Q
inductive Items(K:PySem.W.Frag)(cA:Kn)(i:Nat):List (Addr->Addr->TE)->List (List (String×Bool))->Prop where
 |nil:Items K cA i [] []
 |cons {m:Addr->Addr->TE} {t:List (String×Bool)} {ms:List (Addr->Addr->TE)} {ts:List (List (String×Bool))}:Zib K cA i m t->Items K cA i ms ts->Items K cA i (m::ms) (t::ts)
section
variable{cA:Kn}{G:Cn}{ow owB owC:List Nat}
end
end DL
namespace L2
open PySem PySem.Spec PyProof.Rows
section
variable{X:Cx}{elts:List Expr}{x1:Nat}{tpos:Pos}
end
end L2
namespace DL
open PySem PySem.Spec L2
def VC:List D->List D->List D
 |x::xs,y::ys => .tup [x,y]::VC xs ys
 |_,_=>[]
section
variable{cA:Kn}{G:Cn}{ow:List Nat}
end
end DL
namespace DL
open PySem PySem.Spec L2
def mat(rows:List (List D)):D := .lst (rows.map D.lst)
structure Mx(H:Hp)(a:Addr)(bs:List Addr)(rows:List (List D)):Prop where
 top:H a=some (.lst (bs.map V.ref))
 len:bs.length=rows.length
 nd:bs.Nodup
 na:a∉bs
 row:∀(k:Nat)(b:Addr)(r:List D),bs[k]? = some b->rows[k]? = some r->H b=some (.lst (r.map val))
 sc:∀r∈rows,r.all Zj=true
section
variable{H H':Hp}{a:Addr}{bs:List Addr}{rows:List (List D)}
theorem Mx.mem(M:Mx H a bs rows){b:Addr}(h:b∈bs):∃r∈rows,H b=some (.lst (r.map val)):=by
 obtain⟨k,hk,e⟩:=List.mem_iff_getElem.mp h;have hk2:k<rows.length:=by rw [<-M.len];exact hk
 exact⟨rows[k],List.getElem_mem hk2,M.row k b _ (by rw [List.getElem?_eq_getElem hk,e]) (List.getElem?_eq_getElem hk2)⟩
theorem Mx.there(M:Mx H a bs rows){x:Addr}(h:x∈a::bs):∃vs,H x=some (.lst vs):=by
 rcases List.mem_cons.mp h with rfl|h
 · exact⟨_,M.top⟩
 · obtain⟨r,_,e⟩:=M.mem h
   exact⟨_,e⟩
theorem Mx.mono(M:Mx H a bs rows)(k:Same H H'):Mx H' a bs rows:=⟨k _ _ M.top,M.len,M.nd,M.na,λn b r h1 h2=>k _ _ (M.row n b r h1 h2),M.sc⟩
theorem Mx.rep{cA:Kn}{av:Addr->Prop}(M:Mx H a bs rows)(hn:∀x∈a::bs,¬av x):Rep cA av H (mat rows) (.ref a):=by
 have go:∀(bs:List Addr)(rows:List (List D)),bs.length=rows.length->(∀x∈bs,¬av x)->(∀(k:Nat)(b:Addr)(r:List D),bs[k]? = some b->rows[k]? = some r->H b=some (.lst (r.map val)))->(∀r∈rows,r.all Zj=true)->RepL cA av H (rows.map D.lst) (bs.map V.ref):=by
  intro bs
  induction bs with
  |nil=>
   intro rows hl _ _ _;cases rows with
   |nil=>exact .nil
   |cons _ _=>simp at hl
  |cons b bs ih=>
   intro rows hl hn hr hs;cases rows with
   |nil=>simp at hl
   |cons r rows=>
    refine .cons ?_ (ih rows (by simpa using hl) (λx hx=>hn x (List.mem_cons_of_mem _ hx)) (λk b r h1 h2=>hr (k+1) b r (by simpa using h1) (by simpa using h2)) λr hr=>hs r (List.mem_cons_of_mem _ hr));unfold Rep;exact⟨b,r.map val,rfl,λz=>(hn b List.mem_cons_self z).elim,SqL.of (hr 0 b r rfl rfl),.of_vals (hs r List.mem_cons_self)⟩
 unfold mat Rep;exact⟨a,bs.map V.ref,rfl,λz=>(hn a List.mem_cons_self z).elim,SqL.of M.top,go bs rows M.len (λx hx=>hn x (List.mem_cons_of_mem _ hx)) M.row M.sc⟩
end
open Classical in
noncomputable def ovl(H0 H:Hp)(F:List Addr):Hp:=λx=>if x∈F then H x else H0 x
theorem Yb{H0 H:Hp}{F:List Addr}{x:Addr}(h:x∈F):ovl H0 H F x=H x:=if_pos h
theorem ZZ{H0 H:Hp}{F:List Addr}{x:Addr}(h:x∉F):ovl H0 H F x=H0 x:=if_neg h
abbrev Cn.keep(G:Cn)(i:Nat)(v:V):Cn:=⟨G.1,λj=>if j=i then some (.inr v)else G.2 j⟩
abbrev avF(av:Addr->Prop)(F:List Addr):Addr->Prop:=λx=>av x\/x∈F
def PinOk(G:Cn)(i:Nat)(σ:L2.St):Prop:=∀z,G.2 i=some z->∃v,z = .inr v/\σ[i]? = some (some v)
theorem PinOk.none{G:Cn}{i:Nat}{σ:L2.St}(h:G.2 i=Option.none):PinOk G i σ:=λz e=>by rw [h]at e;cases e
theorem PinOk.set{G:Cn}{i k:Nat}{σ:L2.St}{x:Option V}(h:PinOk G i σ)(hk:k≠i):PinOk G i (σ.set k x):=λz e=>by
 obtain⟨v,h1,h2⟩:=h z e;exact⟨v,h1,by rw [List.getElem?_set_ne hk];exact h2⟩
structure MR(G:Cn)(ow:List Nat)(i:Nat)(H0:Hp)(av:Addr->Prop)(A:Nat->Option Addr)(σ:L2.St)(H:Hp)(δ:Env):Prop where
 ni:i∉ow
 nn:PinOk G i σ
 avd:∀x,av x->H0 x≠none
 ex:∃a bs rows,δ[i]? = some (some (mat rows))/\Mx H a bs rows/\(∀x∈a::bs,H0 x=none)/\ER (G.keep i (.ref a)) ow (ovl H0 H (a::bs)) (avF av (a::bs)) A σ H (δ.set i none)
section
variable{cA:Kn}{G:Cn}{ow owN owB owC ow1:List Nat}{i:Nat}{H0 H H':Hp}{av:Addr->Prop}{A:Nat->Option Addr}{σ:L2.St}{δ:Env}
theorem VD{j:Nat}{v:V}(h:j≠i):(G.keep i v).2 j=G.2 j:=if_neg h
theorem Vg{v:V}:(G.keep i v).2 i=some (.inr v):=if_pos rfl
theorem MR.view(R:MR G ow i H0 av A σ H δ):ER G ow H0 av A σ H δ:=by
 obtain⟨a,bs,rows,hd,M,h0,E⟩:=R.ex
 have nF:∀j x,A j=some x->x∉a::bs:=λj x e z=>by
  have:=E.fr j x e;rw [Yb z]at this;obtain⟨vs,q⟩:=M.there z;rw [q]at this;cases this
 have hAi:A i=none:=by
  cases q:A i with
  |none=>rfl
  |some x=>exact(R.ni (E.dom i (by rw [q];exact λz=>by cases z))).elim
 have less:∀b,AV av A b->AV (avF av (a::bs)) A b:=λb z=>z.elim (λz => .inl (.inl z)) .inr
 have hil:i<δ.length:=(List.getElem?_eq_some_iff.mp hd).1;refine⟨λb o e => ?_,R.avd,λj x e => ?_,E.inj,E.live,E.dom,E.dom',by rw [E.len,List.length_set],λj x e => ?_,λj v e => ?_,λj d e => ?_⟩
 · have nb:b∉a::bs:=λz=>by rw [h0 b z]at e;cases e
   exact E.same b o (by rw [ZZ nb];exact e)
 · have:=E.fr j x e
   rw [ZZ (nF j x e)]at this;exact this
 · have q : j ≠ i := fun z => by
    obtain⟨v,h1,_⟩:=R.nn _ (z▸e);cases h1
   exact E.pin j x (by rw [VD q];exact e)
 · by_cases q:j=i
   · obtain⟨v',h1,h2⟩:=R.nn _ (q▸e)
     cases h1;rw [q];exact h2
   · exact E.kept j v (by rw [VD q];exact e)
 · by_cases q:j=i
   · subst q
     rw [hd]at e;cases e;refine⟨.ref a,E.kept j _ Vg,λ_=>M.rep λx hx z => ?_,λb z=>by rw [hAi]at z;cases z⟩;rcases z with z|⟨k,z⟩
     · exact R.avd x z (h0 x hx)
     · exact nF k x z hx
   · obtain⟨v,h1,h2,h3⟩:=E.var j d (by rw [List.getElem?_set_ne (Ne.symm q)];exact e)
     refine⟨v,h1,λz=>(h2 z).av λb z => .inl (less b z),λb z => ?_⟩;obtain⟨r1,r2⟩:=h3 b z;refine⟨r1,?_⟩;cases d with
     |lst xs=>obtain⟨vs,q1,q2⟩:=r2;exact⟨vs,q1,q2.av λb z => .inl (less b z)⟩
     |obj c ks xs=>obtain⟨dx,vs,q1,q0,q2⟩:=r2;exact⟨dx,vs,q1,q0,q2.av λb z => .inl (less b z)⟩
     |dct ks xs=>obtain⟨vs,q1,q0,q2⟩:=r2;exact⟨vs,q1,q0,q2.av λb z => .inl (less b z)⟩
     |dtt ks xs=>obtain⟨vs,q1,q0,q2⟩:=r2;exact⟨vs,q1,q0,q2.av λb z => .inl (less b z)⟩
     |_=>exact r2
theorem ZaG{a:Addr}{bs:List Addr}{rows:List (List D)}(M:Mx H a bs rows)(k:Same H H'):ovl H0 H' (a::bs)=ovl H0 H (a::bs):=by
 funext x
 by_cases h:x∈a::bs
 · rw [Yb h,Yb h]
   obtain⟨vs,q⟩:=M.there h;rw [q,k _ _ q]
 · rw [ZZ h,ZZ h]
theorem MR.mono(R:MR G ow i H0 av A σ H δ)(k:Same H H'):MR G ow i H0 av A σ H' δ:=by
 obtain⟨a,bs,rows,hd,M,h0,E⟩:=R.ex;exact⟨R.ni,R.nn,R.avd,a,bs,rows,hd,M.mono k,h0,by rw [ZaG M k];exact E.mono k⟩
theorem MR.set{k:Nat}{d:D}(R:MR G ow i H0 av A σ H δ)(hs:Zj d=true)(hk:k≠i)(hw:∀j,j∈owN ↔ j∈ow/\j≠k)(hn:G.2 k=none):MR G owN i H0 av (λj=>if j=k then none else A j) (σ.set k (some (val d))) H (δ.set k (some d)):=by
 obtain⟨a,bs,rows,hd,M,h0,E⟩:=R.ex;refine⟨λz=>R.ni ((hw i).mp z).1,R.nn.set hk,R.avd,a,bs,rows,by rw [List.getElem?_set_ne hk];exact hd,M,h0,?_⟩;rw [List.set_comm _ _ hk];exact E.set (.of_val hs) hw (by rw [VD hk];exact hn)
theorem MR.turn {a:Addr} {bs:List Addr} {rows rows':List (List D)} (ni:i∉ow) (nn:PinOk G i σ) (havd:∀x,av x->H0 x≠none) (hd:δ[i]? = some (some (mat rows))) (M:Mx H a bs rows) (h0:∀x∈a::bs,H0 x=none) (E:ER (G.keep i (.ref a)) ow (ovl H0 H (a::bs)) (avF av (a::bs)) A σ H (δ.set i none))
 (M':Mx H' a bs rows') (hk:∀x,x∉a::bs->H' x=H x):MR G ow i H0 av A σ H' (δ.set i (some (mat rows'))):=by
 have hil:i<δ.length:=(List.getElem?_eq_some_iff.mp hd).1
 have nF:∀j x,A j=some x->x∉a::bs:=λj x e z=>by
  have:=E.fr j x e;rw [Yb z]at this;obtain⟨vs,q⟩:=M.there z;rw [q]at this;cases this
 refine⟨ni,nn,havd,a,bs,rows',List.getElem?_set_self hil,M',h0,?_⟩;have e1:(δ.set i (some (mat rows'))).set i none=δ.set i none:=List.set_set ..;rw [e1];refine⟨λb o e => ?_,λx z => ?_,λj x e => ?_,E.inj,λj x e => ?_,E.dom,E.dom',E.len,E.pin,E.kept,λj d e => ?_⟩
 · by_cases h:b∈a::bs
   · rw [Yb h]at e;exact e
   · rw [ZZ h]at e
     rw [hk b h];exact E.same b o (by rw [ZZ h];exact e)
 · by_cases h:x∈a::bs
   · rw [Yb h]
     obtain⟨vs,q⟩:=M'.there h;rw [q];exact λz=>by cases z
   · rw [ZZ h]
     exact havd x (z.resolve_right h)
 · have:=E.fr j x e
   rw [ZZ (nF j x e)]at this ⊢;exact this
 · rw [hk x (nF j x e)]
   exact E.live j x e
 · have ex : ∀ b o, ¬ AV (avF av (a :: bs)) A b -> H b = some o -> H' b = some o := fun b o n e => by
    rw [hk b λz=>n (.inl (.inr z))];exact e
   obtain⟨v,h1,h2,h3⟩:=E.var j d e;refine⟨v,h1,λz=>(h2 z).ext ex,λb z => ?_⟩;obtain⟨r1,r2⟩:=h3 b z;refine⟨r1,?_⟩;cases d with
   |lst xs=>obtain⟨vs,q1,q2⟩:=r2;exact⟨vs,by rw [hk b (nF j b z)];exact q1,q2.ext ex⟩
   |obj c ks xs=>obtain⟨dx,vs,q1,q0,q2⟩:=r2;exact⟨dx,vs,by rw [hk b (nF j b z)];exact q1,q0,q2.ext ex⟩
   |dct ks xs=>obtain⟨vs,q1,q0,q2⟩:=r2;exact⟨vs,by rw [hk b (nF j b z)];exact q1,q0,q2.ext ex⟩
   |dtt ks xs=>obtain⟨vs,q1,q0,q2⟩:=r2;exact⟨vs,by rw [hk b (nF j b z)];exact q1,q0,q2.ext ex⟩
   |_=>exact r2
end
end DL
namespace DL
open PySem PySem.Spec L2
def WantsM(G:Cn)(owN owB owC:List Nat)(i:Nat)(H0:Hp)(av:Addr->Prop)(De:Ends):Out->Prop
 | .nx δ'=>∀A' σ' H',MR G owN i H0 av A' σ' H' δ'->De.nx σ' H'
 | .rt d=>∀v H',Same H0 H'->Rep G.1 av H' d v->De.rt v H'
 | .bk δ'=>∀A' σ' H',MR G owB i H0 av A' σ' H' δ'->De.bk σ' H'
 | .ct δ'=>∀A' σ' H',MR G owC i H0 av A' σ' H' δ'->De.ct σ' H'
def VM(G:Cn)(ow owN owB owC:List Nat)(i:Nat)(ts:TS)(φ:Env->Option Out):Prop:=
 ∀H0 av A σ H δ,MR G ow i H0 av A σ H δ->∀o,φ δ=some o->∀De:Ends,WantsM G owN owB owC i H0 av De o->ts De σ H
section
variable{cA:Kn}{G:Cn}{ow owN owB owC ow1:List Nat}{i:Nat}
theorem Zgv:VM G ow ow owB owC i tNext sNext:=λH0 av A σ H δ R o e De k=>by
 cases e;exact k A σ H R
theorem XR{t u:TS}{φ ψ:Env->Option Out}(h1:VM G ow ow1 owB owC i t φ)(h2:VM G ow1 owN owB owC i u ψ):VM G ow owN owB owC i (ZS t u) (Ze φ ψ):=λH0 av A σ H δ R o e De k=>by
 unfold Ze at e;cases he:φ δ with
 |none=>rw [he]at e;cases e
 |some o1=>
  rw [he]at e;refine h1 H0 av A σ H δ R o1 he _ ?_;cases o1 with
  |nx δ'=>exact λA' σ' H' R'=>h2 H0 av A' σ' H' δ' R' o e De k
  |rt d=>cases e;exact k
  |bk δ'=>cases e;exact k
  |ct δ'=>cases e;exact k
theorem Zjb{c:TT}{t u:TS}{τ:Env->Option Bool}{φ ψ:Env->Option Out}(hc:VT G ow c τ)(h1:VM G ow owN owB owC i t φ)(h2:VM G ow owN owB owC i u ψ):VM G ow owN owB owC i (Qd c t u) (sIf τ φ ψ):=λH0 av A σ H δ R o e De k=>by
 unfold sIf at e;cases he:τ δ with
 |none=>rw [he]at e;cases e
 |some b=>
  rw [he]at e;refine hc H0 av A σ H δ R.view b he _ λH' s => ?_
  cases b with
  |true=>exact Vs (h1 H0 av A σ H' δ (R.mono s) o e De k)
  |false=>exact Vr (h2 H0 av A σ H' δ (R.mono s) o e De k)
theorem Zic{te:TE}{q:Ql}{ε:Env->Option D}(h:VE G ow te q ε):VM G ow owN owB owC i (V1 te) (ZD ε):=λH0 av A σ H δ R o e De k=>by
 unfold ZD at e;cases he:ε δ with
 |none=>rw [he]at e;cases e
 |some d=>
  rw [he]at e;cases e;exact h H0 av A σ H δ R.view d he _ λv H' s r=>k v H' (R.view.same.trans s) r.any
def VIr(G:Cn)(ow:List Nat)(wi:TI)(ι:Env->Option (List D)):Prop:=
 ∀H0 av A σ H δ,ER G ow H0 av A σ H δ->∀xs,ι δ=some xs->∀R:It->Hp->Prop,(∀J H1,Same H H1->Ud G.1 (λ_=>True) J xs (λ_=>none)->(∀x∈xs,Zj x=true)->R J H1)->wi σ H R
theorem Zdi{lo c:Int}{n:Nat}:∀x∈ZO lo c n,Zj x=true:=λx hx=>by
 obtain⟨k,_,rfl⟩:=List.mem_map.mp hx;rfl
theorem Zb5{ta:TA}{q:Ql}{a:Env->Option (List D)}(h:VA G ow ta q a)(hl:∀δ ds,a δ=some ds->ds.length=1):VIr G ow (JC ta) (ZB a):=λH0 av A σ H δ E xs e R k=>by
 unfold ZB at e;cases he:a δ with
 |none=>rw [he]at e;cases e
 |some ds=>
  rw [he]at e;refine h H0 av A σ H δ E ds he _ λvs H1 s r => ?_
  have hln:=hl δ ds he
  split at e
  · rename_i j he2
    cases he2
    by_cases hz : -(2 ^ 62)<=j/\j<2 ^ 62
    · rw [if_pos hz]at e
      cases e;exact⟨j,ql1 r,hz.1,hz.2,k _ H1 s QL Zdi⟩
    · rw [if_neg hz]at e;cases e
  · rename_i he2;cases he2;simp at hln
  · rename_i he2;cases he2;simp at hln
  · cases e
theorem ZeF{ta:TA}{q:Ql}{a:Env->Option (List D)}(h:VA G ow ta q a)(hl:∀δ ds,a δ=some ds->ds.length=2):VIr G ow (JD ta) (ZB a):=λH0 av A σ H δ E xs e R k=>by
 unfold ZB at e;cases he:a δ with
 |none=>rw [he]at e;cases e
 |some ds=>
  rw [he]at e;refine h H0 av A σ H δ E ds he _ λvs H1 s r => ?_
  have hln:=hl δ ds he
  split at e
  · rename_i he2;cases he2;simp at hln
  · rename_i i j he2
    cases he2
    by_cases hz : -(2 ^ 62)<=i/\i<2 ^ 62 /\ -(2 ^ 62)<=j/\j<2 ^ 62
    · rw [if_pos hz]at e
      cases e;exact⟨i,j,ql2 r,hz,k _ H1 s QL Zdi⟩
    · rw [if_neg hz]at e;cases e
  · rename_i he2;cases he2;simp at hln
  · cases e
theorem ZcR{wi:TI}{tb:TS}{ι:Env->Option (List D)}{φ:Env->Option Out}(k':Nat)(hk:k'≠i)(hko:ow.contains k'=false)(hn:G.2 k'=none)(hi:VIr G ow wi ι)(hb:VM G ow ow ow ow i tb φ):VM G ow ow owB owC i (XI wi (ZG k') tb) (ZJ ι (Zp k') φ):=λH0 av A σ H δ R o e De k=>by
 unfold ZJ at e;cases he:ι δ with
 |none=>rw [he]at e;cases e
 |some xs=>
  rw [he]at e;have e:ZR (Zp k') φ xs δ=some o:=e;refine hi H0 av A σ H δ R.view xs he _ λJ H1 s1 W hsc => ?_
  refine⟨λj m σ' H'=>m=xs.length-j/\j<=xs.length/\∃A' δ',MR G ow i H0 av A' σ' H' δ'/\ZR (Zp k') φ (xs.drop j) δ'=some o,⟨xs.length,by simp,Nat.zero_le _,A,δ,R.mono s1,e⟩,?_⟩
  rintro j m σ' H' ⟨rfl,hle,A',δ',R',e'⟩
  obtain⟨w1,w2,w3⟩:=W H' (λb o z=>by cases z)
  by_cases hlt:j<xs.length
  · refine .inr ⟨w1 j hlt,λσ2 H2=>∃A2 δ2,MR G ow i H0 av A2 σ2 H2 δ2/\ZR (Zp k') φ (xs.drop (j+1)) δ2=some o,λσ2 H2 ⟨A2,δ2,E2,e2⟩=>⟨xs.length-(j+1),by omega,rfl,hlt,A2,δ2,E2,e2⟩,λv H2 y => ?_⟩
    have hx:xs[j]? = some xs[j]:=List.getElem?_eq_getElem hlt;obtain⟨s2,rep⟩:=w2 j _ v H2 hx y;have hs:=hsc xs[j] (List.getElem_mem hlt);have ev:v=val xs[j]:=(rep (λ_=>False) (λ_ z=>z.elim) (λ_ z=>z.elim)).val hs;subst ev;rw [List.drop_eq_getElem_cons hlt]at e';unfold ZR at e'
    have e':(match φ (δ'.set k' (some xs[j]))with
     |none=>none
     |some (.nx δ2)=>ZR (Zp k') φ (xs.drop (j+1)) δ2
     |some (.ct δ2)=>ZR (Zp k') φ (xs.drop (j+1)) δ2
     |some (.bk δ2)=>some (.nx δ2)
     |some (.rt d)=>some (.rt d))=some o:=e'
    have R2:=(R'.mono s2).set (owN:=ow) hs hk (λj=>by
     have:k'∉ow:=by simpa using hko
     exact⟨λh=>⟨h,λz=>this (z▸h)⟩,λh=>h.1⟩) hn
    cases hφ:φ (δ'.set k' (some xs[j]))with
    |none=>rw [hφ]at e';cases e'
    |some o1=>
     rw [hφ]at e';refine hb _ av _ _ H2 _ R2 o1 hφ _ ?_;cases o1 with
     |nx δ2=>exact λA4 σ4 H4 E4=>⟨A4,δ2,E4,e'⟩
     |ct δ2=>exact λA4 σ4 H4 E4=>⟨A4,δ2,E4,e'⟩
     |bk δ2=>cases e';exact λA4 σ4 H4 E4=>k A4 σ4 H4 E4
     |rt d=>cases e';exact k
  · have ei:j=xs.length:=by omega
    subst ei;rw [List.drop_length]at e';cases e';exact .inl ⟨w3 _ (Nat.le_refl _),k A' σ' H' R'⟩
def ZK(i:Nat)(φ:Env->Option Out)(δ:Env):Option Out:=match φ (δ.set i none)with
 |some (.nx δ')=>match δ'[i]? with
  |some none=>some (.nx (δ'.set i ((δ[i]?).getD none)))
  |_=>none
 |some (.rt d)=>some (.rt d)
 |_=>none
theorem VH{t:TS}{φ:Env->Option Out}(h:∀v,VS (G.keep i v) ow owN [] [] t φ)(ho:owN.contains i=false):VM G ow owN owB owC i t (ZK i φ):=λH0 av A σ H δ R o e De k=>by
 obtain⟨a,bs,rows,hd,M,h0,E⟩:=R.ex;unfold ZK at e;cases hp:φ (δ.set i none)with
 |none=>rw [hp]at e;cases e
 |some o1=>
  rw [hp]at e;refine h (.ref a) _ _ A σ H _ E o1 hp De ?_;cases o1 with
  |nx δ1=>
   dsimp only at e;intro A' σ' H' E';have hs:Same (ovl H0 H (a::bs)) H':=E'.same
   have hF:∀x∈a::bs,H' x=H x:=λx hx=>by
    obtain⟨vs,q⟩:=M.there hx;rw [q];exact hs x _ (by rw [Yb hx];exact q)
   cases hi:δ1[i]? with
   |none=>rw [hi]at e;cases e
   |some z=>
    rw [hi]at e;cases z with
    |some y=>cases e
    |none=>
     dsimp only at e;rw [hd]at e;have e:some (Out.nx (δ1.set i (some (mat rows))))=some o:=e;cases e;have hil:i<δ1.length:=(List.getElem?_eq_some_iff.mp hi).1;have M':Mx H' a bs rows:=⟨(hF a List.mem_cons_self).trans M.top,M.len,M.nd,M.na,λk b r h1 h2=>(hF b (List.mem_cons_of_mem _ (List.mem_of_getElem? h1))).trans (M.row k b r h1 h2),M.sc⟩
     have eo:ovl H0 H' (a::bs)=ovl H0 H (a::bs):=by
      funext x
      by_cases hx:x∈a::bs
      · rw [Yb hx,Yb hx,hF x hx]
      · rw [ZZ hx,ZZ hx]
     have es:(δ1.set i (some (mat rows))).set i none=δ1:=by
      rw [List.set_set];apply List.ext_getElem?;intro j
      by_cases hj:j=i
      · subst hj
        rw [List.getElem?_set_self hil,hi]
      · rw [List.getElem?_set_ne (Ne.symm hj)]
     exact k A' σ' H' ⟨by simpa using ho,(λz e=>by
      obtain⟨v,h1,h2⟩:=R.nn z e;have h3:=E.kept i _ Vg;rw [h2]at h3;cases h3;exact⟨_,h1,E'.kept i _ Vg⟩),R.avd,a,bs,rows,List.getElem?_set_self hil,M',h0,by rw [eo,es];exact E'⟩
  |rt d=>
   cases e;intro v H' s r;refine k v H' (λb o q=>s b o ?_) (r.av λb z => .inl (.inl z));have nb:b∉a::bs:=λz=>by rw [h0 b z]at q;cases q
   rw [ZZ nb];exact q
  |bk δ1=>cases e
  |ct δ1=>cases e
end
end DL
namespace DL
open PySem PySem.Spec L2
theorem Zgw{α:Type}{xs:List α}{n:Int}{j:Nat}{x:α}(h:ixN xs.length n=some j)(hx:xs[j]? = some x):atI xs n=some x:=by
 unfold atI;rw [h];exact hx
section
variable{H:Hp}{a b:Addr}{bs:List Addr}{rows:List (List D)}{j:Nat}{r r':List D}
theorem Mx.put(M:Mx H a bs rows)(hb:bs[j]? = some b)(hr:rows[j]? = some r)(hs:r'.all Zj=true):Mx (upd H b (.lst (r'.map val))) a bs (rows.set j r'):=by
 have hbm:b∈bs:=List.mem_of_getElem? hb;have hab:a≠b:=λz=>M.na (z▸hbm)
 have hjl:j<rows.length:=(List.getElem?_eq_some_iff.mp hr).1;refine⟨by rw [Zc hab];exact M.top,by rw [List.length_set];exact M.len,M.nd,M.na,λk b' r1 h1 h2 => ?_,λr1 h1 => ?_⟩
 · by_cases hk:k=j
   · subst hk
     rw [hb]at h1;cases h1;rw [List.getElem?_set_self hjl]at h2;cases h2;exact Zm
   · rw [List.getElem?_set_ne (Ne.symm hk)]at h2
     have:b'≠b:=λz=>hk (by
      subst z;obtain⟨p1,k1⟩:=(List.getElem?_eq_some_iff.mp h1)
      obtain⟨p2,k2⟩:=(List.getElem?_eq_some_iff.mp hb)
      rcases Nat.lt_trichotomy k j with h|h|h
      · exact absurd (k1.trans k2.symm) (List.pairwise_iff_getElem.mp M.nd k j p1 p2 h)
      · exact h
      · exact absurd (k2.trans k1.symm) (List.pairwise_iff_getElem.mp M.nd j k p2 p1 h))
     rw [Zc this];exact M.row k b' r1 h1 h2
 · rcases List.mem_or_eq_of_mem_set h1 with h1|rfl
   · exact M.sc r1 h1
   · exact hs
theorem ZbE:(rows.map D.lst).set j (.lst r')=(rows.set j r').map D.lst:=by rw [List.map_set]
theorem Zgx{d:D}(h:(rows.map D.lst)[j]? = some d):∃r,rows[j]? = some r/\d = .lst r:=by
 rw [List.getElem?_map]at h;cases hr:rows[j]? with
 |none=>rw [hr]at h;cases h
 |some r=>rw [hr]at h;cases h;exact⟨r,rfl,rfl⟩
theorem Mx.at(M:Mx H a bs rows)(hr:rows[j]? = some r):∃b,bs[j]? = some b/\H b=some (.lst (r.map val)):=by
 have hjl:j<bs.length:=by rw [M.len];exact(List.getElem?_eq_some_iff.mp hr).1
 exact⟨bs[j],List.getElem?_eq_getElem hjl,M.row j _ r (List.getElem?_eq_getElem hjl) hr⟩
end
section
variable{cA:Kn}{G:Cn}{ow owN owB owC ow1:List Nat}{i:Nat}
theorem Zgy{ε:Env->Option D}{δ:Env}{d:D}(h:Va ε δ=some d):Zj d=true:=by
 unfold Va at h;cases hx:ε δ with
 |none=>rw [hx]at h;cases h
 |some d'=>
  rw [hx]at h
  by_cases hs:Zj d'=true
  · have e':d'=d:=by simpa [hs]using h
    rw [<-e'];exact hs
  · simp [hs]at h
theorem Zgz{r:List D}{l:Nat}{d:D}(h:r.all Zj=true)(hd:Zj d=true):(r.set l d).all Zj=true:=by
 rw [List.all_eq_true]at h ⊢;intro x hx;rcases List.mem_or_eq_of_mem_set hx with hx|rfl
 · exact h x hx
 · exact hd
def XS(i:Nat)(κ1 κ2 ε:Env->Option D)(δ:Env):Option Out:=match Va ε δ,Za i δ,κ1 δ,κ2 δ with
 |some d,some (.lst xs),some (.int n),some (.int m)=>match ixN xs.length n with
  |some j=>match xs[j]? with
   |some (.lst r)=>match ixN r.length m with
    |some l=>some (.nx (δ.set i (some (.lst (xs.set j (.lst (r.set l d)))))))
    |none=>none
   |_=>none
  |none=>none
 |_,_,_,_=>none
theorem ZcA{κ1 κ2 ε:Env->Option D}{δ:Env}{o:Out}(h:XS i κ1 κ2 ε δ=some o):∃d xs n m j r l,Va ε δ=some d/\Za i δ=some (.lst xs)/\κ1 δ=some (.int n)/\κ2 δ=some (.int m)/\ixN xs.length n=some j/\xs[j]? = some (.lst r)/\ixN r.length m=some l/\o = .nx (δ.set i (some (.lst (xs.set j (.lst (r.set l d)))))):=by
 unfold XS at h
 split at h
 · rename_i d xs n m h1 h2 h3 h4
   split at h
   · rename_i j hj
     split at h
     · rename_i r hr
       split at h
       · rename_i l hl
         exact⟨d,xs,n,m,j,r,l,h1,h2,h3,h4,hj,hr,hl,(Option.some.inj h).symm⟩
       · cases h
     · cases h
   · cases h
 · cases h
theorem Zdj{te t1 t2:TE}{q q1 q2:Ql}{ε κ1 κ2:Env->Option D}(h:VE G ow te q ε)(h1:VE G ow t1 q1 κ1)(h2:VE G ow t2 q2 κ2):VM G ow ow owB owC i (ZV te (Jy (tOp (Qv G.1.K) (Zq i) t1) t2 rSetL)) (XS i κ1 κ2 ε):=λH0 av A σ H δ R o e De k=>by
 obtain⟨d,xs,n,m,j,r,l,e1,e2,e3,e4,e5,e6,e7,rfl⟩:=ZcA e;refine h.scal H0 av A σ H δ R.view d e1 _ λv H1 s1 r1 => ?_
 have hs:=Zgy e1;have ev:v=val d:=(RepT.r r1).val hs;subst ev;have R1:=R.mono s1;obtain⟨a,bs,rows,hd,M,h0,E⟩:=R1.ex
 have ex:xs=rows.map D.lst:=by
  have:=ZT e2;rw [hd]at this;cases this;rfl
 subst ex;obtain⟨r0,hr,er⟩:=Zgx e6;cases er;obtain⟨b,hb,hH⟩:=M.at hr;refine⟨.ref a,E.kept i _ Vg,h1 H0 av A σ H1 δ R1.view _ e3 _ λy H2 s2 r2 => ?_⟩;have ey:y = .int n:=r2.any;subst ey;refine .inl ⟨a,bs.map V.ref,n,.ref b,rfl,rfl,SqL.of (s2 _ _ M.top),Zgw (j:=j) (by rw [List.length_map]at e5 ⊢;rw [M.len];exact e5) (by rw [List.getElem?_map,hb];rfl),?_⟩;have R2:=R1.mono s2
 refine h2 H0 av A σ H2 δ R2.view _ e4 _ λz H3 s3 r3 => ?_
 have ez:z = .int m:=r3.any;subst ez;have s23:=s2.trans s3;have M3:=M.mono s23;refine⟨b,r.map val,m,l,rfl,rfl,s23 _ _ hH,by rw [List.length_map];exact e7,k A σ _ ?_⟩;rw [ZbE];rw [<-List.map_set];have hrs:(r.set l d).all Zj=true:=Zgz (M.sc r (List.mem_of_getElem? hr)) hs;refine MR.turn R.ni R.nn R.avd hd M3 h0 (by rw [ZaG M s23];exact E.mono s23) (M3.put hb hr hrs) λx hx=>Zc λz=>hx (z▸List.mem_cons_of_mem _ (List.mem_of_getElem? hb))
def VL(i k:Nat)(δ:Env):Option Out:=match Za i δ,Za k δ with
 |some (.lst xs),some (.lst r)=>if xs.length<sizeLine/\r.all Zj=true then some (.nx ((δ.set k none).set i (some (.lst (xs++[.lst r])))))else none
 |_,_=>none
theorem ZgA(k':Nat)(hk:k'≠i)(hi:ow.contains k'=true)(hn:G.2 k'=none)(h1:sub owN ow=true)(h2:owN.contains k'=false)(h3:sub ow (k'::owN)=true):VM G ow owN owB owC i (X6 (tBM G.1.K "list" rAppend (Zq i) (Z0 (Zq k') tNil))) (VL i k'):=λH0 av A σ H δ R o e De k=>by
 obtain⟨a,bs,rows,hd,M,h0,E⟩:=R.ex;unfold VL at e
 split at e
 · rename_i xs r e1 e2
   by_cases hz:xs.length<sizeLine/\r.all Zj=true
   · rw [if_pos hz]at e
     cases e
     have ex:xs=rows.map D.lst:=by
      have:=ZT e1;rw [hd]at this;cases this;rfl
     subst ex;have hw:=UQ h1 h2 h3;have hi':k'∈ow:=by simpa using hi
     have hil:i<δ.length:=(List.getElem?_eq_some_iff.mp hd).1
     have nF:∀j x,A j=some x->x∉a::bs:=λj x e z=>by
      have:=E.fr j x e;rw [Yb z]at this;obtain⟨vs,q⟩:=M.there z;rw [q]at this;cases this
     cases hA:A k' with
     |none=>exact absurd hA (E.dom' k' hi')
     |some b=>
      have e2':(δ.set i none)[k']? = some (some (.lst r)):=by rw [List.getElem?_set_ne (Ne.symm hk)];exact ZT e2
      obtain⟨v,g1,_,g3⟩:=E.var k' _ e2';obtain⟨rfl,vs,q1,q2⟩:=g3 b hA;have ev:vs=r.map val:=q2.vals hz.2;subst ev;have hbF:b∉a::bs:=nF k' b hA;have hba:b≠a:=λz=>hbF (z▸List.mem_cons_self)
      have hbb:b∉bs:=λz=>hbF (List.mem_cons_of_mem _ z)
      refine⟨.ref a,E.kept i _ Vg,.inl ⟨rfl,_,SqL.of M.top⟩,.ref b,g1,a,bs.map V.ref,.ref b,rfl,rfl,M.top,?_,k (λj=>if j=k' then none else A j) σ _ ?_⟩
      · have:=hz.1
        rw [List.length_map]at this ⊢;rw [M.len];exact this
      · have hM' : Mx (upd H a (.lst (bs.map V.ref ++ [V.ref b]))) a (bs ++ [b]) (rows ++ [r]) := by
         refine⟨by rw [Zm,List.map_append];rfl,by rw [List.length_append,List.length_append,M.len];rfl,?_,?_,λn b' r' g1 g2 => ?_,λr' hr' => ?_⟩
         · rw [List.nodup_append]
           refine⟨M.nd,by simp,λx hx y hy => ?_⟩;rw [List.mem_singleton.mp hy];exact λz=>hbb (z▸hx)
         · intro z
           rcases List.mem_append.mp z with z|z
           · exact M.na z
           · exact hba (List.mem_singleton.mp z).symm
         · by_cases hn':n<bs.length
           · rw [List.getElem?_append_left hn']at g1
             rw [List.getElem?_append_left (by rw [<-M.len];exact hn')]at g2;have:b'≠a:=λz=>M.na (z▸List.mem_of_getElem? g1)
             rw [Zc this];exact M.row n b' r' g1 g2
           · rw [List.getElem?_append_right (by omega)]at g1
             rw [List.getElem?_append_right (by rw [<-M.len];omega),<-M.len]at g2
             have hnn:n-bs.length=0:=by
              by_cases z:n-bs.length=0
              · exact z
              · rw [List.getElem?_eq_none (by simp;omega)]at g1;cases g1
             rw [hnn]at g1 g2;cases g1;cases g2;rw [Zc hba];exact q1
         · rcases List.mem_append.mp hr' with z|z
           · exact M.sc r' z
           · rw [List.mem_singleton.mp z];exact hz.2
        have h0b:H0 b=none:=by
         have:=E.fr k' b hA;rw [ZZ hbF]at this;exact this
        have hF':∀x,x∈a::(bs++[b]) ↔ x∈a::bs\/x=b:=λx=>by simp [or_assoc]
        have em:D.lst (rows.map D.lst++[.lst r])=mat (rows++[r]):=by unfold mat;rw [List.map_append];rfl
        rw [em];have hdl:i<(δ.set k' none).length:=by rw [List.length_set];exact hil
        refine⟨λz=>R.ni ((hw i).mp z).1,R.nn,R.avd,a,bs++[b],rows++[r],List.getElem?_set_self hdl,hM',λx hx => ?_,?_⟩
        · rcases(hF' x).mp hx with z|rfl
          · exact h0 x z
          · exact h0b
        · rw [List.set_set,List.set_comm _ _ hk]
          have less:∀x,AV (avF av (a::(bs++[b]))) (λj=>if j=k' then none else A j) x->AV (avF av (a::bs)) A x:=λx z=>by
           rcases z with(z|z)|⟨j,z⟩
           · exact .inl (.inl z)
           · rcases(hF' x).mp z with z|rfl
             · exact .inl (.inr z)
             · exact .inr ⟨k',hA⟩
           · by_cases q:j=k'
             · simp [q]at z
             · simp [q]at z;exact .inr ⟨j,z⟩
          have hkp:∀x o,¬AV (avF av (a::bs)) A x->H x=some o->upd H a (.lst (bs.map V.ref++[V.ref b])) x=some o:=λx o n e=>by
           rw [Zc λ(z:x=a)=>n (.inl (.inr (by rw [z];exact List.mem_cons_self)))];exact e
          have oj:∀j x,j≠k'->A j=some x->x≠b:=λj x hj e z=>hj (E.inj j k' b (z▸e) hA)
          refine⟨λx o e => ?_,λx z => ?_,λj x e => ?_,λj l x e1 e2 => ?_,λj x e => ?_,λj e => ?_,λj hj => ?_,by rw [List.length_set];exact E.len,λj x e => ?_,E.kept,λj d e => ?_⟩
          · by_cases hx:x∈a::(bs++[b])
            · rw [Yb hx]at e;exact e
            · rw [ZZ hx]at e
              have hx2:x∉a::bs:=λz=>hx ((hF' x).mpr (.inl z))
              rw [Zc λ(z:x=a)=>hx2 (by rw [z];exact List.mem_cons_self)];exact E.same x o (by rw [ZZ hx2];exact e)
          · by_cases hx:x∈a::(bs++[b])
            · rw [Yb hx]
              obtain⟨vs,q⟩:=hM'.there hx;rw [q];exact λz=>by cases z
            · rw [ZZ hx]
              exact R.avd x (z.resolve_right hx)
          · by_cases q:j=k'
            · simp [q]at e
            · simp [q]at e
              have nx:x∉a::(bs++[b]):=λz=>((hF' x).mp z).elim (nF j x e) (oj j x q e)
              rw [ZZ nx];have:=E.fr j x e;rw [ZZ (nF j x e)]at this;exact this
          · by_cases q:j=k'
            · simp [q]at e1
            · by_cases q2:l=k'
              · simp [q2]at e2
              · simp [q]at e1;simp [q2]at e2;exact E.inj j l x e1 e2
          · by_cases q:j=k'
            · simp [q]at e
            · simp [q]at e
              rw [Zc λ(z:x=a)=>nF j x e (by rw [z];exact List.mem_cons_self)];exact E.live j x e
          · by_cases q:j=k'
            · simp [q]at e
            · simp [q]at e;exact(hw j).mpr ⟨E.dom j e,q⟩
          · obtain⟨g1,g2⟩:=(hw j).mp hj
            simp [g2];exact E.dom' j g1
          · have q : j ≠ k' := fun z => by
             rw [z]at e;rw [VD hk,hn]at e;cases e
            simp only [q,if_false];exact E.pin j x e
          · have q : j ≠ k' := fun z => by
             rw [z]at e
             by_cases hl:k'<(δ.set i none).length
             · rw [List.getElem?_set_self hl]at e;cases e
             · rw [List.getElem?_eq_none (by rw [List.length_set];omega)]at e;cases e
            obtain⟨v,p1,p2,p3⟩:=E.var j d (by rw [List.getElem?_set_ne (Ne.symm q)]at e;exact e);refine⟨v,p1,λz => ?_,λx z => ?_⟩
            · simp [q]at z
              exact((p2 z).ext hkp).av λy z => .inl (less y z)
            · simp [q]at z
              obtain⟨r1,r2⟩:=p3 x z;have xa:x≠a:=λw=>nF j x z (w▸List.mem_cons_self)
              refine⟨r1,?_⟩;cases d with
              |lst xs=>obtain⟨vs,q1,q2⟩:=r2;exact⟨vs,by rw [Zc xa];exact q1,(q2.ext hkp).av λy z => .inl (less y z)⟩
              |obj c ks xs=>obtain⟨dx,vs,q1,q0,q2⟩:=r2;exact⟨dx,vs,by rw [Zc xa];exact q1,q0,(q2.ext hkp).av λy z => .inl (less y z)⟩
              |dct ks xs=>obtain⟨vs,q1,q0,q2⟩:=r2;exact⟨vs,by rw [Zc xa];exact q1,q0,(q2.ext hkp).av λy z => .inl (less y z)⟩
              |dtt ks xs=>obtain⟨vs,q1,q0,q2⟩:=r2;exact⟨vs,by rw [Zc xa];exact q1,q0,(q2.ext hkp).av λy z => .inl (less y z)⟩
              |_=>exact r2
   · rw [if_neg hz]at e;cases e
 · cases e
end
end DL
namespace DL
open PySem PySem.Spec L2
def VFM(G:Cn)(ow:List Nat)(te:TE)(ε:Env->Option D):Prop:=
 ∀H0 av A σ H δ,ER G ow H0 av A σ H δ->∀d,ε δ=some d->∀Q:VK,(∀a bs rows H',Same H H'->(∀x∈a::bs,H x=none)->Mx H' a bs rows->d=mat rows->Q (.ref a) H')->te σ H Q
def YZ(i:Nat)(ε:Env->Option D)(δ:Env):Option Out:=match ε δ with
 |some d=>if i<δ.length then some (.nx (δ.set i (some d)))else none
 |none=>none
section
variable{cA:Kn}{G:Cn}{ow owN owB owC ow1:List Nat}{i:Nat}
theorem Zb6{H0 H H':Hp}{av:Addr->Prop}{A:Nat->Option Addr}{σ:L2.St}{δ:Env}{a:Addr}{bs:List Addr}{rows:List (List D)}(E:ER G ow H0 av A σ H δ)(hi:i∉ow)(hn:G.2 i=none)(hil:i<δ.length)(s:Same H H')(hf:∀x∈a::bs,H x=none)(M:Mx H' a bs rows) :
 MR G ow i H0 av A (σ.set i (some (.ref a))) H' (δ.set i (some (mat rows))):=by
 have h0:∀x∈a::bs,H0 x=none:=λx hx=>E.same.free (hf x hx)
 have nF:∀j x,A j=some x->x∉a::bs:=λj x e z=>E.live j x e (hf x z)
 have E':=E.mono s;refine⟨hi,.none hn,E.avd,a,bs,rows,List.getElem?_set_self hil,M,h0,?_⟩;rw [List.set_set];refine⟨λb o e => ?_,λx z => ?_,λj x e => ?_,E.inj,E'.live,E.dom,E.dom',by rw [List.length_set,List.length_set];exact E.len,λj x e => ?_,λj v e => ?_,λj d e => ?_⟩
 · by_cases hx:b∈a::bs
   · rw [Yb hx]at e;exact e
   · rw [ZZ hx]at e;exact E'.same b o e
 · by_cases hx:x∈a::bs
   · rw [Yb hx]
     obtain⟨vs,q⟩:=M.there hx;rw [q];exact λz=>by cases z
   · rw [ZZ hx]
     exact E.avd x (z.resolve_right hx)
 · rw [ZZ (nF j x e)]
   exact E.fr j x e
 · have q:j≠i:=λz=>by rw [z,Vg]at e;cases e
   exact E.pin j x (by rw [VD q]at e;exact e)
 · by_cases q:j=i
   · subst q
     rw [Vg]at e;cases e;exact List.getElem?_set_self (by rw [E.len];exact hil)
   · rw [VD q]at e
     rw [List.getElem?_set_ne (Ne.symm q)];exact E.kept j v e
 · have q : j ≠ i := fun z => by
    rw [z,List.getElem?_set_self hil]at e;cases e
   rw [List.getElem?_set_ne (Ne.symm q)]at e;obtain⟨v,h1,h2,h3⟩:=E.var j d e
   have more:∀b,AV (avF av (a::bs)) A b->AV av A b\/H b=none:=λb z=>by
    rcases z with(z|z)|z
    · exact .inl (.inl z)
    · exact .inr (hf b z)
    · exact .inl (.inr z)
   refine⟨v,by rw [List.getElem?_set_ne (Ne.symm q)];exact h1,λz=>((h2 z).av more).same s,λb z => ?_⟩;obtain⟨r1,r2⟩:=h3 b z;refine⟨r1,?_⟩;cases d with
   |lst xs=>obtain⟨vs,q1,q2⟩:=r2;exact⟨vs,s _ _ q1,(q2.av more).same s⟩
   |obj c ks xs=>obtain⟨dx,vs,q1,q0,q2⟩:=r2;exact⟨dx,vs,s _ _ q1,q0,(q2.av more).same s⟩
   |dct ks xs=>obtain⟨vs,q1,q0,q2⟩:=r2;exact⟨vs,s _ _ q1,q0,(q2.av more).same s⟩
   |dtt ks xs=>obtain⟨vs,q1,q0,q2⟩:=r2;exact⟨vs,s _ _ q1,q0,(q2.av more).same s⟩
   |_=>exact r2
theorem WantsM.of{H0:Hp}{av:Addr->Prop}{De:Ends}{o:Out}(k:Wants G owN owB owC H0 av De o):WantsM G owN owB owC i H0 av De o:=by
 cases o with
 |nx δ'=>exact λA' σ' H' R=>k A' σ' H' R.view
 |rt d=>exact k
 |bk δ'=>exact λA' σ' H' R=>k A' σ' H' R.view
 |ct δ'=>exact λA' σ' H' R=>k A' σ' H' R.view
theorem Zid{te:TE}{u:TS}{ε:Env->Option D}{ψ:Env->Option Out}(i:Nat)(hi:ow.contains i=false)(hn:G.2 i=none)(h1:VFM G ow te ε)(h2:VM G ow owN owB owC i u ψ):VS G ow owN owB owC (ZS (ZV te (ZG i)) u) (Ze (YZ i ε) ψ):=λH0 av A σ H δ E o e De k=>by
 unfold Ze YZ at e;cases he:ε δ with
 |none=>rw [he]at e;cases e
 |some d=>
  rw [he]at e;dsimp only at e
  by_cases hil:i<δ.length
  · rw [if_pos hil]at e
    dsimp only at e;refine h1 H0 av A σ H δ E d he _ λa bs rows H' s hf M hd => ?_
    subst hd;exact h2 H0 av A _ H' _ (Zb6 E (by simpa using hi) hn hil s hf M) o e De (WantsM.of k)
  · rw [if_neg hil]at e;cases e
def FW(H0:Hp)(De:Ends)(d:D):Prop:=∀a bs rows H',Same H0 H'->(∀x∈a::bs,H0 x=none)->Mx H' a bs rows->d=mat rows->De.rt (.ref a) H'
def VSF(G:Cn)(ow:List Nat)(ts:TS)(φ:Env->Option Out):Prop:=∀H0 av A σ H δ,ER G ow H0 av A σ H δ->∀d,φ δ=some (.rt d)->∀De:Ends,FW H0 De d->ts De σ H
def VMF(G:Cn)(ow:List Nat)(i:Nat)(ts:TS)(φ:Env->Option Out):Prop:=∀H0 av A σ H δ,MR G ow i H0 av A σ H δ->∀d,φ δ=some (.rt d)->∀De:Ends,FW H0 De d->ts De σ H
def Xu(φ ψ:Env->Option Out)(δ:Env):Option Out:=match φ δ with
 |some (.nx δ')=>ψ δ'
 |_=>none
theorem ZgB:VMF G ow i (V1 (Zq i)) (ZD (Za i)):=λH0 av A σ H δ R d e De k=>by
 obtain⟨a,bs,rows,hd,M,h0,E⟩:=R.ex;have e2:Za i δ=some (mat rows):=by unfold Za;rw [hd]
 unfold ZD at e;rw [e2]at e;cases e;exact⟨.ref a,E.kept i _ Vg,k a bs rows H R.view.same h0 M rfl⟩
theorem ZgC{t u:TS}{φ ψ:Env->Option Out}(h1:VM G ow ow1 [] [] i t φ)(h2:VMF G ow1 i u ψ):VMF G ow i (ZS t u) (Xu φ ψ):=λH0 av A σ H δ R d e De k=>by
 unfold Xu at e
 split at e
 · rename_i δ' hp
   exact h1 H0 av A σ H δ R _ hp _ λA' σ' H' R'=>h2 H0 av A' σ' H' δ' R' d e De k
 · cases e
theorem ZgD{te:TE}{u:TS}{ε:Env->Option D}{ψ:Env->Option Out}(i:Nat)(hi:ow.contains i=false)(hn:G.2 i=none)(h1:VFM G ow te ε)(h2:VMF G ow i u ψ):VSF G ow (ZS (ZV te (ZG i)) u) (Xu (YZ i ε) ψ):=λH0 av A σ H δ E d e De k=>by
 unfold Xu YZ at e;cases he:ε δ with
 |none=>rw [he]at e;cases e
 |some d'=>
  rw [he]at e;dsimp only at e
  by_cases hil:i<δ.length
  · rw [if_pos hil]at e
    dsimp only at e;refine h1 H0 av A σ H δ E d' he _ λa bs rows H' s hf M hd => ?_
    subst hd;exact h2 H0 av A _ H' _ (Zb6 E (by simpa using hi) hn hil s hf M) d e De k
  · rw [if_neg hil]at e;cases e
def runF(N:Nat)(φ:Env->Option Out)(ds:List D):Option D:=match φ (ds.map some++List.replicate (N-ds.length) none)with
 |some (.rt d)=>some d
 |_=>none
def spM(cA:Kn)(n:Nat)(m:List D->Option D):Sp:=λvs H Q _=>∃av ds d,(∀a,av a->H a≠none)/\RepL cA av H ds vs/\ds.length=n/\m ds=some d/\∀a bs rows H',Same H H'->(∀x∈a::bs,H x=none)->Mx H' a bs rows->d=mat rows->Q (.ref a) H'
theorem ZgE:VFM G ow (Vq tNil) (ZM eNil):=λH0 av A σ H δ E d e Q k=>by
 refine⟨Nat.zero_le _,λp hp => ?_⟩
 have ed:d=mat []:=by
  have:(some (D.lst []):Option D)=some d:=e;exact(Option.some.inj this).symm
 refine k p [] [] _ (Yh hp) (λx hx => ?_) ⟨Zm,rfl,List.nodup_nil,(λz=>by cases z),(λk b r h1 h2=>by simp at h1),(λr h=>by cases h)⟩ ed;rw [List.mem_singleton.mp hx];exact hp
theorem ZeG{n:Nat}{m:List D->Option D}{t:TA}{q:Ql}{α:Env->Option (List D)}{E0:XK}(dds:List D)(hd:dds.all Zj=true)(h:VA G ow t q α):VFM G ow (Qn (spM G.1 n m) (dds.map val) E0 t) (ZE n m dds α):=λH0 av A σ H δ E d e Q k=>by
 unfold ZE at e;cases he:α δ with
 |none=>rw [he]at e;cases e
 |some ds=>
  rw [he]at e;dsimp only at e
  by_cases hz:(ds++dds).length=n
  · rw [if_pos hz]at e
    refine h H0 av A σ H δ E ds he _ λvs H1 s1 r1 => ?_
    exact⟨av,ds++dds,d,(E.mono s1).avH,r1.any.append (.of_vals hd),hz,e,λa bs rows H' s hf M hd=>k a bs rows H' (s1.trans s) (λx hx=>s1.free (hf x hx)) M hd⟩
  · rw [if_neg hz]at e;cases e
theorem VFM.cl{te:TE}{ε:Env->Option D}(h:VFM G ow te ε):VE G ow te .cl ε:=λH0 av A σ H δ E d e Q k=>
 h H0 av A σ H δ E d e Q λa bs rows H' s hf M hd=>by
  subst hd;exact k _ H' s (M.rep λx hx z=>E.avl x z (hf x hx)).t
end
section
variable{P:Program}{w:World}{K:PySem.W.Frag}{mg:Str->Option Value}{base:Heap}{cA:Kn}
theorem Zjc {x qual:Str} {st:Stmt} {f:Addr} {fd:FuncData} {N ps:List Str} {k:Nat} {φ:Env->Option Out} {body:List Stmt} {scope:Scope} {n:Nat} {m:List D->Option D} (F:FunX K x qual st f fd) (S:FnScope N ps (defScope st)) (hS:defScope st=scope) (hB:defBody st=body)
 (hbody:∀(cdv:Value)(A:Around)(outer:List PySem.Env)(s:Shared)(H:Hp)(E:XK),Room k (A.deeper (PyProof.Rows.envOfC qual scope s.heap.objs.size f cdv)) ->
   ∃t,PSs (Yg CX0 P w K mg base N qual scope f cdv A outer s H E).nox body t/\VSF ⟨cA,λ_=>none⟩ [] t φ) (hm:m=runF N.length φ) (hn:ps.length=n):FnOk P w K mg base CX0 (k+1) f fd ps (spM cA n m):=by
 subst hS hB hm hn;refine F.ok S (λvs H Q E h => ?_) λcdv A outer s H vs Q E hr h => ?_
 · obtain⟨av,ds,d,_,r,hl,_⟩:=h
   rw [<-r.length,hl]
 · obtain⟨av,ds,d,ha,r,hl,hm,q⟩:=h
   obtain⟨t,ht,hv⟩:=hbody cdv A outer s H E hr;refine⟨t,ht,?_⟩;unfold runF at hm
   split at hm
   · rename_i d' hφ
     cases hm;exact hv H av _ _ H _ (QM ha r) _ hφ _ λa bs rows H' s' hf M hd=>q a bs rows H' s' hf M hd
   · cases hm
end
end DL
namespace DL
open PySem PySem.Spec L2
section
variable{cA:Kn}{G:Cn}{ow:List Nat}
structure RowsAt(H0 H:Hp)(bs:List Addr)(rows:List (List D)):Prop where
 len:bs.length=rows.length
 nd:bs.Nodup
 row:∀(k:Nat)(b:Addr)(r:List D),bs[k]? = some b->rows[k]? = some r->H b=some (.lst (r.map val))
 fr:∀b∈bs,H0 b=none
 sc:∀r∈rows,r.all Zj=true
theorem RowsAt.same{H0 H H':Hp}{bs:List Addr}{rows:List (List D)}(R:RowsAt H0 H bs rows)(s:Same H H'):RowsAt H0 H' bs rows:=⟨R.len,R.nd,λk b r h1 h2=>s _ _ (R.row k b r h1 h2),R.fr,R.sc⟩
end
end DL
namespace DL
open PySem PySem.Spec L2
section
variable{cA:Kn}{G:Cn}{ow owN owB owC ow1:List Nat}{i:Nat}
open Classical in
end
section
variable{P:Program}{w:World}{K:PySem.W.Frag}{mg:Str->Option Value}{base:Heap}{cA:Kn}
end
end DL
namespace L2
open PySem PySem.Spec PySem.W PyProof.Rows
theorem Zjd {X:Cx} {K:PySem.W.Frag} {o:Expr} {to:TE} {name:Str} {apos cpos:Pos} {T id:String} {r:V->List V->Hp->VK->Prop} (pa:PlainAttrs T) (slot:Slot T name id) (hty:typeOf (.builtin id)=pure (.type "method_descriptor")) (hm:MtR X id r) (ho:PE X o to)
 (hbase:attributeBase o name X.env (eval o X.env)=eval o X.env:=by rfl) (hline:(apos.endLine == cpos.line)=true:=by rfl) (hK:X.K=K:=by rfl):PE X (.Call (.Attribute o name apos) [] [] cpos) (JP K T r to):=hK▸ZhY pa slot hty hm ho hbase hline
end L2
namespace DL
open PySem PySem.Spec L2
section
variable{cA:Kn}{G:Cn}{ow owN owB owC ow1:List Nat}{i:Nat}
theorem MR.own{H0 H:Hp}{av:Addr->Prop}{A:Nat->Option Addr}{σ:L2.St}{δ:Env}{k:Nat}{xs:List D}{p:Addr}(R:MR G ow i H0 av A σ H δ)(hs:xs.all Zj=true)(hp:H p=none)(hk:k≠i)(hw:∀j,j∈ow1 ↔ j∈ow\/j=k)(hn:G.2 k=none):MR G ow1 i H0 av (λj=>if j=k then some p else A j) (σ.set k (some (.ref p))) (upd H p (.lst (xs.map val))) (δ.set k (some (.lst xs))):=by
 obtain⟨a,bs,rows,hd,M,h0,E⟩:=R.ex;refine⟨λz=>((hw i).mp z).elim R.ni λz=>hk z.symm,R.nn.set hk,R.avd,a,bs,rows,by rw [List.getElem?_set_ne hk];exact hd,M.mono (Yh hp),h0,?_⟩;rw [List.set_comm _ _ hk,ZaG M (Yh hp)];exact E.own hp (.of_vals hs) hw (by rw [VD hk];exact hn)
end
end DL
namespace DL
open PySem PySem.Spec L2
def XT:D->Option Key
 | .int i=>some (.inl i)
 | .str cs=>some (.inr (tx cs))
 |_=>none
theorem Zao{d:D}{k:Key}(h:XT d=some k):val d=kV k/\Zj d=true:=by
 cases d<;>first|(cases h;done)|(cases h;exact⟨rfl,rfl⟩)
def Xv{α:Type}(k:Key)(d:α):List Key->List α->List α
 |k0::ks,x::xs=>(if k0=k then d else x)::Xv k d ks xs
 |_,xs=>xs
def Y0(k:Key):List Key->Bool
 | []=>false
 |k0::ks=>decide (k0=k)||Y0 k ks
def Ui(ks:List Key)(xs:List D)(k:Key)(d:D):D:=if Y0 k ks=true then .dct ks (Xv k d ks xs)else .dct (ks++[k]) (xs++[d])
theorem Zb7{α:Type}(k:Key)(d:α):∀(ks:List Key)(xs:List α),(Xv k d ks xs).length=xs.length
 | [],_=>rfl
 |_::_,[]=>rfl
 |k0::ks,x::xs=>by rw [Xv,List.length_cons,List.length_cons,Zb7 k d ks xs]
theorem Zbr(k:Key):∀(ks:List Key)(vs:List V),ks.length=vs.length->((ks.zip vs).any λkv=>decide (kv.1=k))=Y0 k ks
 | [],_,_=>rfl
 |k0::ks,[],h=>by simp at h
 |k0::ks,v::vs,h=>by
  rw [List.zip_cons_cons,List.any_cons,Zbr k ks vs (by simpa using h)];rfl
theorem ZeH(k:Key){ks:List Key}{vs:List V}(h:ks.length=vs.length):(Zz (ks.zip vs) k).isSome=Y0 k ks:=by rw [<-Vv,Zbr k ks vs h]
theorem Zdk(k:Key)(v:V):∀(ks:List Key)(vs:List V),ks.length=vs.length->(ks.zip vs).map (λkv=>if kv.1=k then(kv.1,v)else kv)=ks.zip (Xv k v ks vs)
 | [],_,_=>by simp
 |k0::ks,[],h=>by simp at h
 |k0::ks,x::vs,h=>by
  rw [List.zip_cons_cons,List.map_cons,Xv,List.zip_cons_cons,Zdk k v ks vs (by simpa using h)]
  by_cases e:k0=k
  · simp [e]
  · simp [e]
section
variable{cA:Kn}{av:Addr->Prop}{H:Hp}
theorem Zb8(k:Key){d:D}{v:V}(hd:Rep cA av H d v):∀(ks:List Key){xs:List D}{vs:List V},RepL cA av H xs vs->RepL cA av H (Xv k d ks xs) (Xv k v ks vs)
 | [],xs,vs,l=>l
 |k0::ks,[],vs,l=>by rw [l.nil_of];exact .nil
 |k0::ks,y::xs,vs,l=>by
  obtain⟨u,r,rfl,h1,h2⟩:=l.uncons;rw [Xv,Xv];refine .cons ?_ (Zb8 k hd ks h2)
  by_cases e:k0=k
  · rw [if_pos e,if_pos e];exact hd
  · rw [if_neg e,if_neg e];exact h1
theorem ZgF(k:Key){d:D}{v:V}{ks:List Key}{xs:List D}{vs:List V}{a:Addr}{H':Hp}(hks:ks.length=xs.length)(l:RepL cA av H' xs vs)(hd:Rep cA av H' d v)(e:H' a=some (.dK (ZF (ks.zip vs) k v))):Own cA av H' (Ui ks xs k d) a:=by
 have hl:ks.length=vs.length:=by rw [hks,l.length]
 unfold ZF at e;rw [Zbr k ks vs hl]at e;unfold Ui
 by_cases h:Y0 k ks=true
 · rw [if_pos h,Zdk k v ks vs hl]at e
   rw [if_pos h];exact⟨_,e,by rw [Zb7];exact hks,Zb8 k hd ks l⟩
 · rw [if_neg h]at e
   rw [if_neg h];refine⟨vs++[v],?_,by rw [List.length_append,List.length_append,hks];rfl,l.append (.cons hd .nil)⟩;rw [e,List.zip_append hl];rfl
end
section
variable{G:Cn}{ow owN owB owC ow1:List Nat}{H0 H:Hp}{av:Addr->Prop}{A:Nat->Option Addr}{σ:L2.St}{δ:Env}
theorem ZgG{i:Nat}{ks:List Key}{xs:List D}{vs:List V}{p:Addr}(E:ER G ow H0 av A σ H δ)(hp:H p=none)(hks:ks.length=xs.length)(l:RepL G.1 (AV av A) H xs vs)(hw:∀j,j∈ow1 ↔ j∈ow\/j=i)(hn:G.2 i=none) :
 ER G ow1 H0 av (λj=>if j=i then some p else A j) (σ.set i (some (.ref p))) (upd H p (.dK (ks.zip vs))) (δ.set i (some (.dct ks xs))):=by
 have hs:Same H (upd H p (.dK (ks.zip vs))):=Yh hp
 have less:∀b,AV av (λj=>if j=i then some p else A j) b->AV av A b\/H b=none:=λb z=>by
  rcases z with z|⟨j,z⟩
  · exact .inl (.inl z)
  · by_cases e:j=i
    · simp [e]at z;subst z;exact .inr hp
    · simp [e]at z;exact .inl (.inr ⟨j,z⟩)
 have np:∀j a,A j=some a->a≠p:=λj a e z=>by subst z;exact E.live j a e hp
 have h0:H0 p=none:=by
  cases q:H0 p with
  |none=>rfl
  |some o=>rw [E.same p o q]at hp;cases hp
 refine⟨E.same.trans hs,E.avd,λj a e => ?_,λj k a e1 e2 => ?_,λj a e => ?_,λj e => ?_,λj hj => ?_,by simp [E.len],λj a e=>(by
  have q:j≠i:=λz=>by rw [z,hn]at e;cases e
  simp only [q,if_false];exact E.pin j a e),(λj v' e=>by
  have q:j≠i:=λz=>by rw [z,hn]at e;cases e
  rw [List.getElem?_set_ne (Ne.symm q)];exact E.kept j v' e),λj d' e => ?_⟩
 · by_cases q:j=i
   · simp [q]at e;subst e;exact h0
   · simp [q]at e;exact E.fr j a e
 · by_cases q:j=i
   · by_cases q2:k=i
     · rw [q,q2]
     · simp [q]at e1;simp [q2]at e2
       exact absurd e1.symm (np k a e2)
   · by_cases q2:k=i
     · simp [q]at e1;simp [q2]at e2
       exact absurd e2.symm (np j a e1)
     · simp [q]at e1;simp [q2]at e2;exact E.inj j k a e1 e2
 · by_cases q:j=i
   · simp [q]at e;subst e;rw [Zm];exact λz=>by cases z
   · simp [q]at e
     rw [Zc (np j a e)];exact E.live j a e
 · by_cases q:j=i
   · exact(hw j).mpr (.inr q)
   · simp [q]at e;exact(hw j).mpr (.inl (E.dom j e))
 · by_cases q:j=i
   · simp [q]
   · simp [q]
     exact E.dom' j (((hw j).mp hj).resolve_right q)
 · rcases UP e with⟨rfl,rfl,hl⟩|⟨q,e'⟩
   · refine⟨.ref p,?_,λz=>by simp at z,λa z => ?_⟩
     · rw [List.getElem?_set_self (by rw [E.len];exact hl)]
     · simp at z
       subst z;exact⟨rfl,vs,Zm,hks,(l.av less).same hs⟩
   · obtain⟨v',h1,h2,h3⟩:=E.var j d' e'
     refine⟨v',by rw [List.getElem?_set_ne (Ne.symm q)];exact h1,λz => ?_,λa z => ?_⟩
     · simp [q]at z
       exact((h2 z).av less).same hs
     · simp [q]at z
       obtain⟨r1,r2⟩:=h3 a z;refine⟨r1,?_⟩;cases d' with
       |lst xs=>obtain⟨vs',q1,q2⟩:=r2;exact⟨vs',hs _ _ q1,(q2.av less).same hs⟩
       |obj c ks xs=>obtain⟨dx,vs',q1,q0,q2⟩:=r2;exact⟨dx,vs',hs _ _ q1,q0,(q2.av less).same hs⟩
       |dct ks xs=>obtain⟨vs',q1,q0,q2⟩:=r2;exact⟨vs',hs _ _ q1,q0,(q2.av less).same hs⟩
       |dtt ks xs=>obtain⟨vs',q1,q0,q2⟩:=r2;exact⟨vs',hs _ _ q1,q0,(q2.av less).same hs⟩
       |_=>exact r2
def VFD(G:Cn)(ow:List Nat)(te:TE)(ε:Env->Option D):Prop:=
 ∀H0 av A σ H δ,ER G ow H0 av A σ H δ->∀d,ε δ=some d->∀Q:VK,(∀p ks vs xs H1,Same H H1->H1 p=none->ks.length=xs.length->RepL G.1 (AV av A) H1 xs vs->d = .dct ks xs->Q (.ref p) (upd H1 p (.dK (ks.zip vs))))->te σ H Q
theorem ZgH:VFD G ow tDNewK (eC (.dct [] [])):=λH0 av A σ H δ E d e Q k=>λp hp=>by
 cases e;exact k p [] [] [] H (Same.refl H) hp rfl .nil rfl
theorem ZgI{te:TE}{ε:Env->Option D}(i:Nat)(h:VFD G ow te ε)(hn:G.2 i=none)(h1:sub owN (i::ow)=true)(h2:owN.contains i=true)(h3:sub ow owN=true):VS G ow owN owB owC (ZV te (ZG i)) (Zi i ε):=λH0 av A σ H δ E o e De k=>by
 unfold Zi at e;cases he:ε δ with
 |none=>rw [he]at e;cases e
 |some d=>
  rw [he]at e;cases e;refine h H0 av A σ H δ E d he _ λp ks vs xs H1 s hp hk l hd => ?_
  subst hd;exact k _ _ _ (ZgG (E.mono s) hp hk l (J6 h1 h2 h3) hn)
def inK(neg:Bool):D->D->Option D
 |x,.dct ks _=>match XT x with
  |some k=>some (.bl (neg != Y0 k ks))
  |none=>none
 |_,_=>none
theorem ZeI{neg:Bool}{x y d:D}(h:inK neg x y=some d):∃ks xs k,y = .dct ks xs/\XT x=some k/\d = .bl (neg != Y0 k ks):=by
 unfold inK at h
 split at h
 · rename_i ks xs
   cases hk:XT x with
   |none=>rw [hk]at h;cases h
   |some k=>rw [hk]at h;exact⟨ks,xs,k,rfl,rfl,(Option.some.inj h).symm⟩
 · cases h
theorem Zie{ta tb:TE}{qa qb:Ql}{a b:Env->Option D}(ha:VE G ow ta qa a)(hb:VE G ow tb qb b):VE G ow (Zj9 ta tb) .cl (eOp (inK false) a b):=λH0 av A σ H δ E d e Q k=>by
 obtain⟨x,y,ex,ey,ed⟩:=Qz e;obtain⟨ks,xs,kk,rfl,hk,rfl⟩:=ZeI ed;obtain⟨hv,hs⟩:=Zao hk;refine ha H0 av A σ H δ E _ ex _ λv H1 s1 r1=>hb H0 av A σ H1 δ (E.mono s1) _ ey _ λw H2 s2 r2 => ?_
 have e1:v=kV kk:=(r1.any.val hs).trans hv;obtain⟨p,vs,rfl,_,rd,hl,l⟩:=r2.tp;refine⟨p,_,rfl,e1▸DGet.k rd,?_⟩;rw [ZeH kk (hl.trans l.length)];have:=k (.bl (false != Y0 kk ks)) H2 (s1.trans s2) blq;rw [Bool.false_bne]at this;exact this
def Xw(i:Nat)(κ ε:Env->Option D)(δ:Env):Option Out:=match ε δ,Za i δ,κ δ with
 |some d,some (.dct ks xs),some x=>match XT x with
  |some k=>if ks.length<sizeLine then some (.nx (δ.set i (some (Ui ks xs k d))))else none
  |none=>none
 |_,_,_=>none
theorem ZcB{i:Nat}{κ ε:Env->Option D}{δ:Env}{o:Out}(h:Xw i κ ε δ=some o):∃d ks xs x k,ε δ=some d/\Za i δ=some (.dct ks xs)/\κ δ=some x/\XT x=some k/\ks.length<sizeLine/\o = .nx (δ.set i (some (Ui ks xs k d))):=by
 unfold Xw at h
 split at h
 · rename_i d ks xs x h1 h2 h3
   cases hk:XT x with
   |none=>rw [hk]at h;cases h
   |some k=>
    rw [hk]at h;dsimp only at h
    by_cases hz:ks.length<sizeLine
    · rw [if_pos hz]at h
      exact⟨d,ks,xs,x,k,h1,h2,h3,hk,hz,(Option.some.inj h).symm⟩
    · rw [if_neg hz]at h;cases h
 · cases h
theorem ZgJ{te ti:TE}{q:Ql}{ε κ:Env->Option D}(i:Nat)(hi:ow.contains i=true)(h:VE G ow te .cl ε)(hk:VE G ow ti q κ):VS G ow ow owB owC (UH (Zq i) ti te) (Xw i κ ε):=λH0 av A σ H δ E o e De k=>by
 obtain⟨d,ks,xs,x,kk,e1,e2,e3,hkk,hz,rfl⟩:=ZcB e;obtain⟨hv,hs⟩:=Zao hkk;have hi':i∈ow:=by simpa using hi
 cases hA:A i with
 |none=>exact absurd hA (E.dom' i hi')
 |some a=>
  refine h H0 av A σ H δ E d e1 _ λv H1 s1 r1 => ?_
  have E1:=E.mono s1;obtain⟨u,g1,_,g3⟩:=E1.var i _ (ZT e2);refine⟨u,g1,hk H0 av A σ H1 δ E1 _ e3 _ λy H2 s2 r2 => ?_⟩;have E2:=E1.mono s2;obtain⟨u',g1',_,g3'⟩:=E2.var i _ (ZT e2);obtain⟨rfl,vs,q1,q0,q2⟩:=g3' a hA;have eu:u = .ref a:=(g3 a hA).1;subst eu;have ey:y=kV kk:=(r2.any.val hs).trans hv;subst ey;refine⟨a,_,rfl,DPut.k q1 ?_,k A σ _ (E2.put hA (ZT e2) (λb o hb e=>by rw [Zc hb];exact e) (by rw [Zm];exact λz=>by cases z) ?_)⟩
  · have:(ks.zip vs).length=ks.length:=by rw [List.length_zip,<-q2.length,q0];omega
    rw [this];exact hz
  · have ex : ∀ b o, ¬ AV av A b -> H2 b = some o -> upd H2 a (.dK (ZF (ks.zip vs) kk v)) b = some o := fun b o n e => by
     rw [Zc λz=>n (.inr ⟨i,by rw [z];exact hA⟩)];exact e
    exact ZgF kk q0 (q2.ext ex) ((RepT.r (r1.same s2)).ext ex) Zm
end
end DL
namespace L2
open PySem
theorem YD{X:Cx}(h:X.A.units+64<cLine):X.A.units+1<cLine:=by omega
end L2
namespace DL
open PySem PySem.Spec L2
section
variable{G:Cn}{ow owN owB owC ow1:List Nat}
def Xd(i:Nat)(ε:Env->Option D)(δ:Env):Option Out:=match Za i δ,ε δ with
 |some (.lst xs),some (.lst ys)=>if xs.length+ys.length<=sizeLine then some (.nx (δ.set i (some (.lst (xs++ys)))))else none
 |_,_=>none
theorem Zif{te:TE}{ε:Env->Option D}(i:Nat)(hi:ow.contains i=true)(h:VF G ow te ε):VS G ow ow owB owC (X6 (tBM G.1.K "list" rExtend (Zq i) (Z0 te tNil))) (Xd i ε):=λH0 av A σ H δ E o e De k=>by
 unfold Xd at e
 split at e
 · rename_i xs ys hv he
   by_cases hz:xs.length+ys.length<=sizeLine
   · rw [if_pos hz]at e
     cases e;have hi':i∈ow:=by simpa using hi
     cases hA:A i with
     |none=>exact absurd hA (E.dom' i hi')
     |some a=>
      obtain⟨v,g1,_,g3⟩:=E.var i _ (ZT hv);obtain⟨rfl,ws,q1,q2⟩:=g3 a hA;refine⟨_,g1,.inl ⟨rfl,ws,SqL.of q1⟩,h H0 av A σ H δ E _ he _ λp vs zs H1 s1 hp l hd => ?_⟩;cases hd;have s2:Same H1 (upd H1 p (.lst vs)):=Yh hp;have E2:=(E.mono s1).mono s2;have q1':=s2 _ _ (s1 _ _ q1);have l2:=(q2.same s1).same s2;refine⟨a,p,ws,vs,rfl,rfl,q1',Zm,by rw [<-q2.length,<-l.length];exact hz,k A σ _ (E2.put hA (ZT hv) (λb o hb e=>by rw [Zc hb];exact e) (by rw [Zm];exact λz=>by cases z) ⟨_,Zm,?_⟩)⟩
      exact(l2.append (l.same s2)).ext λb o n e=>by
       rw [Zc λz=>n (.inr ⟨i,by rw [z];exact hA⟩)];exact e
   · rw [if_neg hz]at e;cases e
 · cases e
end
section
variable{cA:Kn}{G:Cn}{ow owN owB owC ow1:List Nat}{i:Nat}
end
section
variable{P:Program}{w:World}{K:PySem.W.Frag}{mg:Str->Option Value}{base:Heap}{cA:Kn}
open Classical in
end
end DL
namespace L2
open PySem PySem.Spec PyProof.Rows
section
variable{X:Cx}
theorem ZaD{x:V}:∀{xs:List V}{us:List Value},Vals xs us->xs.all Ys=true->us.countP (eqU x)=xs.countP λy=>eqV y x
 |_,_,.nil,_=>rfl
 |y::xs,u::us,.cons r t,f=>by
  rw [List.all_cons,Bool.and_eq_true]at f;rw [List.countP_cons,List.countP_cons,Qo r f.1,ZaD t f.2]
def Zdl(K:PySem.W.Frag):V->List V->Hp->VK->Prop:=λx vs H Q=>∃p xs y,x = .ref p/\vs=[y]/\SqL K H p xs/\Ys y=true/\xs.all Ys=true/\Q (.int (xs.countP λz=>eqV z y:Nat)) H
theorem Za7{K:PySem.W.Frag}(hK:X.K=K:=by rfl):MtR X "list.count" (Zdl K):=by
 subst hK;intro pins s σ H x xs v us Q I rx rs h;obtain⟨p,zs,y,rfl,rfl,hq,fy,fs,q⟩:=h;cases rx;obtain⟨u,rfl,ru⟩:=Y6 rs;obtain⟨its,r,pl,hz⟩:=I.list hq;obtain⟨⟨cls,dd,data,sl⟩,ho,hc,n,hd⟩:=id pl.isList;simp only at hc hd;subst hc hd;refine call_meets PySem.F.slot_list_count ⟨_,ho,rfl⟩ PySem.F.entry_list_count (PySem.F.args_list_count_2 _ _) (SeqAt.list_countAt p its.toArray n dd sl u (eqU y)) ⟨ho,λw hw=>Uz ru fy r fs w (by simpa using hw),?_⟩
 rw [show its.toArray.toList=its from rfl,ZaD r fs];exact⟨.int _,H,I.tok _,⟨_,rfl⟩,q⟩
theorem Zbs{x:V}:∀{xs:List V}{us:List Value},Vals xs us->xs.all Ys=true->∀(k:Nat)(u:Value)(y:V),us[k]? = some u->xs[k]? = some y->eqU x u=eqV y x
 |_,_,.nil,_=>λk u y h=>by cases k<;>cases h
 |y::xs,u::us,.cons r t,f=>λk u' y' h1 h2=>by
  rw [List.all_cons,Bool.and_eq_true]at f;cases k with
  |zero=>cases h1;cases h2;exact Qo r f.1
  |succ k=>exact Zbs t f.2 k u' y' h1 h2
theorem ZeJ{xs:List V}{us:List Value}(h:Vals xs us):xs.length=us.length:=by
 induction h with
 |nil=>rfl
 |cons _ _ ih=>rw [List.length_cons,List.length_cons,ih]
def Zdm(K:PySem.W.Frag):V->List V->Hp->VK->Prop:=λx vs H Q=>∃p xs y j z,x = .ref p/\vs=[y]/\SqL K H p xs/\Ys y=true/\xs.all Ys=true/\xs[j]? = some z/\eqV z y=true/\(∀m w,m<j->xs[m]? = some w->eqV w y=false)/\Q (.int (j:Nat)) H
theorem Zd6{K:PySem.W.Frag}(hK:X.K=K:=by rfl):MtR X "list.index" (Zdm K):=by
 subst hK;intro pins s σ H x xs v us Q I rx rs h;obtain⟨p,zs,y,j,z,rfl,rfl,hq,fy,fs,hj,he,hno,q⟩:=h;cases rx;obtain⟨u,rfl,ru⟩:=Y6 rs;obtain⟨its,r,pl,hz⟩:=I.list hq;have hs:sizeLine=16777216:=sizeLine_eq;have hl:=ZeJ r;have hjl:j<zs.length:=(List.getElem?_eq_some_iff.mp hj).1;obtain⟨⟨cls,dd,data,sl⟩,ho,hc,n,hd⟩:=id pl.isList;simp only at hc hd;subst hc hd
 have hji:j<its.toArray.size:=by rw [List.size_toArray];omega
 refine call_meets PySem.F.slot_list_index ⟨_,ho,rfl⟩ PySem.F.entry_list_index (PySem.F.args_list_index_2 _ _) (SeqAt.list_indexAt p its.toArray n dd sl u (eqU y) j hji (by omega) ?_ ?_) ⟨ho,λw hw=>Uz ru fy r fs w (by simpa using hw),?_⟩
 · rw [Zbs r fs j _ z (by simp) hj]
   exact he
 · intro m hm hmj
   have hm2:m<zs.length:=by omega
   rw [Zbs r fs m _ zs[m] (by simp) (List.getElem?_eq_getElem hm2)];exact hno m _ hmj (List.getElem?_eq_getElem hm2)
 · exact⟨.int _,H,I.tok _,⟨_,rfl⟩,q⟩
end
end L2
namespace DL
open PySem PySem.Spec L2
section
variable{cA:Kn}{G:Cn}{ow owN owB owC ow1:List Nat}{i:Nat}
def ZiW(K:PySem.W.Frag)(r:V->List V->Hp->VK->Prop)(f:List D->D->Option D):Prop:=
 ∀(H:Hp)(a:Addr)(xs:List D)(y d:D),xs.all Zj=true->Zj y=true->SqL K H a (xs.map val)->f xs y=some d->Zj d=true/\∀Q:VK,Q (val d) H->r (.ref a) [val y] H Q
def eLM(f:List D->D->Option D)(a b:Env->Option D)(δ:Env):Option D:=match a δ with
 |some (.lst xs)=>match b δ with
  |some y=>if xs.all Zj&&Zj y then f xs y else none
  |none=>none
 |_=>none
theorem Zf0{K:PySem.W.Frag}{r:V->List V->Hp->VK->Prop}{f:List D->D->Option D}{to tb:TE}{q0 q:Ql}{a b:Env->Option D}(hr:ZiW K r f)(ha:VE G ow to q0 a)(hb:VE G ow tb q b)(hK:G.1.K=K:=by rfl) :
 VE G ow (tBM K "list" r to (Z0 tb tNil)) .cl (eLM f a b):=λH0 av A σ H δ E d e Q k=>by
 subst hK;unfold eLM at e;cases hx:a δ with
 |none=>rw [hx]at e;cases e
 |some x=>
  rw [hx]at e;cases x<;>first|(cases e;done)|skip
  rename_i xs;dsimp only at e;cases hy:b δ with
  |none=>rw [hy]at e;cases e
  |some y=>
   rw [hy]at e;dsimp only at e
   by_cases hz:(xs.all Zj&&Zj y)=true
   · rw [if_pos hz]at e
     rw [Bool.and_eq_true]at hz;refine ha H0 av A σ H δ E _ hx _ λv H1 s1 r1 => ?_
     obtain⟨p,vs,rfl,_,hq,l⟩:=r1.any;have ev:=l.vals hz.1;subst ev;refine⟨.inl ⟨rfl,_,hq⟩,?_⟩;refine hb H0 av A σ H1 δ (E.mono s1) y hy _ λv2 H2 s2 r2 => ?_
     have e2:v2=val y:=r2.any.val hz.2;subst e2;have hq2:SqL G.1.K H2 p (xs.map val):=hq.elim (λz => .inl (Rd.ext z (s2 p))) .inr;obtain⟨hsd,hh⟩:=hr H2 p xs y d hz.1 hz.2 hq2 e;exact hh _ (k _ H2 (s1.trans s2) (Rep.of_val hsd).t)
   · rw [if_neg hz]at e;cases e
def lcountD(xs:List D)(y:D):Option D:=some (.int ((xs.map val).countP λz=>eqV z (val y):Nat))
theorem Zb9{K:PySem.W.Frag}:ZiW K (Zdl K) lcountD:=λH a xs y d hx hy hq e=>by
 cases e;exact⟨rfl,λQ q=>⟨a,_,_,rfl,rfl,hq,UM hy,UN hx,q⟩⟩
def lindexD(xs:List D)(y:D):Option D:=match(xs.map val).findIdx? λz=>eqV z (val y)with
 |some j=>some (.int (j:Nat))
 |none=>none
theorem ZeK{K:PySem.W.Frag}:ZiW K (Zdm K) lindexD:=λH a xs y d hx hy hq e=>by
 unfold lindexD at e;cases hj:(xs.map val).findIdx? λz=>eqV z (val y)with
 |none=>rw [hj]at e;cases e
 |some j=>
  rw [hj]at e;cases e;obtain⟨h1,h2,h3⟩:=List.findIdx?_eq_some_iff_getElem.mp hj;refine⟨rfl,λQ q=>⟨a,_,_,j,_,rfl,rfl,hq,UM hy,UN hx,List.getElem?_eq_getElem h1,h2,λm w hm hw => ?_,q⟩⟩;have hml:m<(xs.map val).length:=by omega
  have:=h3 m hm;rw [List.getElem?_eq_getElem hml]at hw;cases hw;simpa using this
mutual
def frz:D->Bool
 | .non=>true
 | .bl _=>true
 | .int _=>true
 | .str _=>true
 | .lst _=>false
 | .tup xs=>frzL xs
 | .obj _ _ xs=>frzL xs
 | .dct _ _=>false
 | .dtt _ _=>false
def frzL:List D->Bool
 | []=>true
 |x::xs=>frz x&&frzL xs
end
mutual
theorem Rep.frz{av av':Addr->Prop}{H:Hp}:∀{d:D}{v:V},frz d=true->(∀b,av' b->av b\/∃vs,H b=some (.lst vs))->Rep cA av H d v->Rep cA av' H d v
 | .non,_,_,_,h=>h
 | .bl _,_,_,_,h=>h
 | .int _,_,_,_,h=>h
 | .str _,_,_,_,h=>h
 | .lst xs,v,hf,k,h=>by cases hf
 | .tup xs,v,hf,k,h=>by
  unfold DL.frz at hf;unfold Rep at h ⊢;obtain⟨a,vs,e,n,r,l⟩:=h;exact⟨a,vs,e,λz=>(k a z).elim n (by rw [r];exact λ⟨_,z⟩=>by cases z),r,RepL.frz hf k l⟩
 | .obj c ks xs,v,hf,k,h=>by
  unfold DL.frz at hf;unfold Rep at h ⊢;obtain⟨a,dx,vs,e,n,r,z,l⟩:=h;exact⟨a,dx,vs,e,λz=>(k a z).elim n (by rw [r];exact λ⟨_,z⟩=>by cases z),r,z,RepL.frz hf k l⟩
 | .dct ks xs,v,hf,k,h=>by cases hf
 | .dtt ks xs,v,hf,k,h=>by cases hf
theorem RepL.frz{av av':Addr->Prop}{H:Hp}:∀{xs:List D}{vs:List V},frzL xs=true->(∀b,av' b->av b\/∃vs,H b=some (.lst vs))->RepL cA av H xs vs->RepL cA av' H xs vs
 | [],_,_,_,h=>h
 |x::xs,vs,hf,k,h=>by
  unfold DL.frzL at hf;rw [Bool.and_eq_true]at hf;unfold RepL at h ⊢;obtain⟨v,r,e,h1,h2⟩:=h;exact⟨v,r,e,Rep.frz hf.1 k h1,RepL.frz hf.2 k h2⟩
end
end
end DL
namespace PySem
open Sem (wp)
section
variable{prog:Program}{w:World}{A:Around}{E:Value->Shared->Prop}{s:Shared}
theorem ZbF {j t:Addr} {i:Nat} {xs:Array Value} {x:Value} {Q:Value->Shared->Prop} (hj:s.heap.IsTupleIter j t i) (ht:s.heap.IsTuple t xs) (hx:xs[i]? = some x)
 (hQ:∀h',h'.IsTupleIter j t (i+1)->Heap.SameBut j s.heap h'->Q x { s with heap:=h' }):wpAny (model prog w) A (Builtin.SmallTypes.nextOf (.ref j)) Q E s:=by
 obtain⟨oj,gj,cj,dj⟩:=id hj;obtain⟨ot,gt,_,nt,dt⟩:=ht;unfold Builtin.SmallTypes.nextOf;refine wpAny_bind (wpAny_callSpecial?_slot (name:=Str.ofString "__next__") hj.typeIs F.slot_tuple_iterator_next (wpAny_call_entry F.slot_tuple_iterator_next hj.typeIs F.entry_tuple_iterator_next ?_ (F.args_tuple_iterator_next_1 _)));show wpAny _ _ (field (.ref j) 0 >>= _) _ _ s;refine wpAny_bind (wpAny_field gj dj (x:=.ref t) rfl ?_)
 show wpAny _ _ (if(Value.ref t == Value.none)=true then _ else _) _ _ _;rw [if_neg (show ¬(Value.ref t == Value.none)=true from λz=>Bool.false_ne_true z)];show wpAny _ _ (field (.ref j) 1 >>= _) _ _ s;refine wpAny_bind (wpAny_field gj dj (x:=.int i 0) rfl ?_);show wpAny _ _ (seqItems? (.ref t) >>= _) _ _ _;refine wpAny_bind (wpAny_seqItems gt dt ?_);simp only [Int.toNat_natCast,hx];refine wpAny_bind (wpAny_setField gj dj (by simp) (wpAny_pure ⟨x,rfl,wpAny_pure (hQ _ ?_ (Heap.SameBut.update ..))⟩))
 refine⟨_,Heap.get?_update_self _ gj (Obj.isFreed_of_fields (Obj.data_mapFields dj _)),(Obj.cls_mapFields ..).trans cj,?_⟩;rw [Obj.data_mapFields dj];simp [rawInt]
theorem ZbG {j t:Addr} {i:Nat} {xs:Array Value} {Q:Value->Shared->Prop} (hh:A.handled=none) (hj:s.heap.IsTupleIter j t i) (ht:s.heap.IsTuple t xs) (hx:xs[i]? = none)
 (hE:∀h' e,Heap.ExtBut j s.heap h'->(∃o,h'.get? e=some o/\o.cls = .type "StopIteration")->E (.ref e) { s with heap:=h' }):wpAny (model prog w) A (Builtin.SmallTypes.nextOf (.ref j)) Q E s:=by
 obtain⟨oj,gj,cj,dj⟩:=id hj;obtain⟨ot,gt,_,nt,dt⟩:=ht;unfold Builtin.SmallTypes.nextOf;refine wpAny_bind (wpAny_callSpecial?_slot (name:=Str.ofString "__next__") hj.typeIs F.slot_tuple_iterator_next (wpAny_call_entry F.slot_tuple_iterator_next hj.typeIs F.entry_tuple_iterator_next ?_ (F.args_tuple_iterator_next_1 _)));show wpAny _ _ (field (.ref j) 0 >>= _) _ _ s;refine wpAny_bind (wpAny_field gj dj (x:=.ref t) rfl ?_)
 show wpAny _ _ (if(Value.ref t == Value.none)=true then _ else _) _ _ _;rw [if_neg (show ¬(Value.ref t == Value.none)=true from λz=>Bool.false_ne_true z)];show wpAny _ _ (field (.ref j) 1 >>= _) _ _ s;refine wpAny_bind (wpAny_field gj dj (x:=.int i 0) rfl ?_);show wpAny _ _ (seqItems? (.ref t) >>= _) _ _ _;refine wpAny_bind (wpAny_seqItems gt dt ?_);simp only [Int.toNat_natCast,hx];refine wpAny_bind (wpAny_rule (wpAny_bind (wpAny_setField gj dj (by simp) ?_)))
 show wpAny _ _ (newExc (.type "StopIteration") List.nil >>= _) _ _ _;refine wpAny_bind ?_;simp only [newExc,newTuple];refine wpAny_bind (wpAny_newObj_type (wpAny_bind (m:=firstArgMember _ _) (wpAny_of_eq (a:=Value.none) (by first|rfl|(simp only [firstArgMember];rfl)) (wpAny_newObj_type ?_ (by size_fits)))) (by size_fits));simp only [raiseNew];refine wpAny_bind (wpAny_handled ?_)
 first|rw [show A.in1.handled=none from hh]|rw [hh]
 exact wpAny_bind (wpAny_pure (wpAny_throw (hE _ _ (((Heap.SameBut.update ..).extBut.push _).push _) ⟨_,Heap.get?_push_size _ rfl,rfl⟩)))
end
def IsQI(k:Bool)(h:Heap)(a l:Addr)(i:Nat):Prop:=match k with
 |true=>h.IsTupleIter a l i
 |false=>h.IsListIter a l i
def IsQ(k:Bool)(h:Heap)(l:Addr)(xs:Array Value):Prop:=match k with
 |true=>h.IsTuple l xs
 |false=>h.IsList l xs
theorem IsQI.get{k:Bool}{h:Heap}{a l:Addr}{i:Nat}(x:IsQI k h a l i):∃o,h.get? a=some o/\o.data = .fields #[.ref l,.int i 0]:=by
 cases k with
 |true=>obtain⟨o,e,_,d⟩:=x;exact⟨o,e,d⟩
 |false=>obtain⟨o,e,_,d⟩:=x;exact⟨o,e,d⟩
theorem IsQI.at{k:Bool}{h h':Heap}{a l:Addr}{i:Nat}(x:IsQI k h a l i)(f:∀o,h.get? a=some o->h'.get? a=some o):IsQI k h' a l i:=by
 cases k with
 |true=>obtain⟨o,e,r⟩:=x;exact⟨o,f o e,r⟩
 |false=>obtain⟨o,e,r⟩:=x;exact⟨o,f o e,r⟩
theorem IsQI.ext{k:Bool}{h h':Heap}{a b l:Addr}{i:Nat}(x:IsQI k h a l i)(hs:Heap.ExtBut b h h')(n:a≠b):IsQI k h' a l i:=x.at λo e=>hs a o n e
theorem IsQ.at{k:Bool}{h h':Heap}{l:Addr}{xs:Array Value}(x:IsQ k h l xs)(f:∀o,h.get? l=some o->h'.get? l=some o):IsQ k h' l xs:=by
 cases k with
 |true=>obtain⟨o,e,r⟩:=x;exact⟨o,f o e,r⟩
 |false=>obtain⟨o,e,r⟩:=x;exact⟨o,f o e,r⟩
theorem IsQ.ext{k:Bool}{h h':Heap}{b l:Addr}{xs:Array Value}(x:IsQ k h l xs)(hs:Heap.ExtBut b h h')(n:l≠b):IsQ k h' l xs:=x.at λo e=>hs l o n e
theorem IsQ.lt{k:Bool}{h:Heap}{l:Addr}{xs:Array Value}(x:IsQ k h l xs):l<h.objs.size:=by
 cases k with
 |true=>obtain⟨o,e,_⟩:=x;exact Heap.lt_size e
 |false=>obtain⟨o,e,_⟩:=x;exact Heap.lt_size e
section
variable{prog:Program}{w:World}{A:Around}{E:Value->Shared->Prop}{s:Shared}
theorem Uj {k:Bool} {j t:Addr} {i:Nat} {xs:Array Value} {x:Value} {Q:Value->Shared->Prop} (hj:IsQI k s.heap j t i) (ht:IsQ k s.heap t xs) (hx:xs[i]? = some x)
 (hQ:∀h',IsQI k h' j t (i+1)->Heap.SameBut j s.heap h'->Q x { s with heap:=h' }):wpAny (model prog w) A (Builtin.SmallTypes.nextOf (.ref j)) Q E s:=by
 cases k with
 |true=>exact ZbF hj ht hx hQ
 |false=>exact wpAny_nextOf_list_item hj ht hx hQ
theorem QQ {k:Bool} {j t:Addr} {i:Nat} {xs:Array Value} {Q:Value->Shared->Prop} (hh:A.handled=none) (hj:IsQI k s.heap j t i) (ht:IsQ k s.heap t xs) (hx:xs[i]? = none)
 (hE:∀h' e,Heap.ExtBut j s.heap h'->(∃o,h'.get? e=some o/\o.cls = .type "StopIteration")->E (.ref e) { s with heap:=h' }):wpAny (model prog w) A (Builtin.SmallTypes.nextOf (.ref j)) Q E s:=by
 cases k with
 |true=>exact ZbG hh hj ht hx hE
 |false=>exact wpAny_nextOf_list_end hh hj ht hx hE
theorem Zd7 {p q:Bool} {z TI TO i1 i2 l1 l2:Addr} {k1 k2:Nat} {xs ys:Array Value} {x y a b:Value} {Q:Value->Shared->Prop} (D:ZipApart z TI TO i1 i2 l1 l2)
 (gz:IsZip s.heap z TI TO .none) (gI:IsPair s.heap TI (.ref i1) (.ref i2)) (gO:IsPair s.heap TO a b) (u1:IsQI p s.heap i1 l1 k1) (u2:IsQI q s.heap i2 l2 k2) (m1:IsQ p s.heap l1 xs) (m2:IsQ q s.heap l2 ys) (hx:xs[k1]? = some x) (hy:ys[k2]? = some y)
 (hQ:∀h',IsZip h' z TI TO (rawInt s.heap.objs.size)->IsPair h' TO x y->IsQI p h' i1 l1 (k1+1)->IsQI q h' i2 l2 (k2+1)->IsPair h' s.heap.objs.size x y->h'.objs.size=s.heap.objs.size+1->(∀c o,c≠z->c≠TO->c≠i1->c≠i2->s.heap.get? c=some o->h'.get? c=some o)->Q (.ref s.heap.objs.size) { s with heap:=h' }) :
 wpAny (model prog w) A (Builtin.«zip.__next__» ⟨[.ref z],[]⟩) (λfin s'=>∃v,fin = .done (.ret v)/\Q v s') E s:=by
 show wpAny _ _ (field (.ref z) 2 >>= λ_=>_) _ _ _;refine wpAny_bind (wpAny_field gz rfl (x:=.bool false) rfl ?_);show wpAny _ _ (field (.ref z) 3 >>= λ_=>_) _ _ _;refine wpAny_bind (wpAny_field gz rfl (x:=.ref TI) rfl (wpAny_bind (wpAny_seqItems gI rfl ?_)));show wpAny _ _ (Builtin.SmallTypes.ownedTupleIsFree (.ref z) >>= λ_=>_) _ _ _;unfold Builtin.SmallTypes.ownedTupleIsFree;refine wpAny_bind (wpAny_bind (wpAny_field gz rfl (x:=.none) rfl (wpAny_pure ?_)))
 simp only [if_true];refine wpAny_bind (wpAny_rule (wpAny_bind (wpAny_field gz rfl (x:=.ref TO) rfl (wpAny_bind (wpAny_setField_rec gz (by simp) λh₁ gz₁ s₁ => ?_)))));have gz₁:IsZip h₁ z TI TO .ellipsis:=gz₁;refine wpAny_bind ?_;simp only [List.zipIdx_cons,List.forIn_cons,List.zipIdx_nil,List.forIn_nil];refine wpAny_bind (wpAny_bind (wpAny_onRaise (wpAny_bind (m:=Builtin.SmallTypes.nextOf (.ref i1)) (Uj (u1.ext s₁.extBut D.i1z) (m1.ext s₁.extBut D.l1z) hx λh₂ u1₂ s₂=>wpAny_pure ?_))))
 have gO₂:IsPair h₂ TO a b:=s₂.extBut _ _ D.TOi1 (s₁.extBut _ _ D.TOz gO);refine wpAny_bind (wpAny_seqItems gO₂ rfl (wpAny_bind (wpAny_updateSeq_pair gO₂ λh₃ gO₃ s₃ => ?_)));have gO₃:IsPair h₃ TO x b:=gO₃;refine wpAny_bind (wpAny_letGo (wpAny_pure ?_));refine wpAny_bind (wpAny_bind (wpAny_onRaise (wpAny_bind (m:=Builtin.SmallTypes.nextOf (.ref i2)) (Uj (((u2.ext s₁.extBut D.i2z).ext s₂.extBut D.i12.symm).ext s₃.extBut D.TOi2.symm) (((m2.ext s₁.extBut D.l2z).ext s₂.extBut D.l2i1).ext s₃.extBut D.l2TO) hy λh₄ u2₄ s₄=>wpAny_pure ?_))))
 have gO₄:IsPair h₄ TO x b:=s₄.extBut _ _ D.TOi2 gO₃;refine wpAny_bind (wpAny_seqItems gO₄ rfl (wpAny_bind (wpAny_updateSeq_pair gO₄ λh₅ gO₅ s₅ => ?_)));have gO₅:IsPair h₅ TO x y:=gO₅;refine wpAny_bind (wpAny_letGo (wpAny_pure (wpAny_pure (wpAny_bind (wpAny_seqItems gO₅ rfl (wpAny_bind (wpAny_newTuple ?_)))))));have ez:h₅.objs.size=s.heap.objs.size:=by rw [s₅.1,s₄.1,s₃.1,s₂.1,s₁.1]
 have gz₅:IsZip h₅ z TI TO .ellipsis:=s₅.extBut _ _ D.TOz.symm (s₄.extBut _ _ D.i2z.symm (s₃.extBut _ _ D.TOz.symm (s₂.extBut _ _ D.i1z.symm gz₁)));have kp:∀c o,c≠z->c≠TO->c≠i1->c≠i2->s.heap.get? c=some o->h₅.get? c=some o:=λc o c1 c2 c3 c4 e=>s₅.extBut _ _ c2 (s₄.extBut _ _ c4 (s₃.extBut _ _ c2 (s₂.extBut _ _ c3 (s₁.extBut _ _ c1 e))))
 have u1₅:IsQI p h₅ i1 l1 (k1+1):=((u1₂.ext s₃.extBut D.TOi1.symm).ext s₄.extBut D.i12).ext s₅.extBut D.TOi1.symm;have u2₅:IsQI q h₅ i2 l2 (k2+1):=u2₄.ext s₅.extBut D.TOi2.symm;have lz:z<h₅.objs.size:=Heap.lt_size gz₅;show wpAny _ _ (Builtin.SmallTypes.ownedTupleHandOut (.ref z) (.ref h₅.objs.size) >>= λ_=>_) _ _ _;unfold Builtin.SmallTypes.ownedTupleHandOut;have gz₆:IsZip (h₅.push { cls := .type "tuple",data := .seq #[x,y] }) z TI TO .ellipsis:=Heap.get?_push_of_some _ gz₅
 refine wpAny_bind (wpAny_bind (wpAny_setField_rec gz₆ (by simp) λh₇ gz₇ s₇ => ?_));have gz₇:IsZip h₇ z TI TO (rawInt h₅.objs.size):=gz₇;refine wpAny_setField_rec gz₇ (by simp) λh₈ gz₈ s₈ => ?_
 have gz₈:IsZip h₈ z TI TO (rawInt h₅.objs.size):=gz₈;have up:∀c o,c≠z->h₅.get? c=some o->h₈.get? c=some o:=λc o c1 e=>s₈.extBut _ _ c1 (s₇.extBut _ _ c1 (Heap.get?_push_of_some _ e))
 have gT:IsPair h₈ h₅.objs.size x y:=s₈.extBut _ _ (Nat.ne_of_gt lz) (s₇.extBut _ _ (Nat.ne_of_gt lz) (Heap.get?_push_size _ rfl));have e8:h₈.objs.size=h₅.objs.size+1:=by rw [s₈.1,s₇.1,Heap.size_push]
 rw [ez]at gz₈ gT e8;refine wpAny_pure ⟨_,rfl,?_⟩;rw [ez];exact hQ h₈ gz₈ (up _ _ D.TOz gO₅) (u1₅.at λo e=>up _ o D.i1z e) (u2₅.at λo e=>up _ o D.i2z e) gT e8 λc o c1 c2 c3 c4 e=>up c o c1 (kp c o c1 c2 c3 c4 e)
theorem ZeL {p q:Bool} {z TI TO i1 i2 l1 l2:Addr} {k1 k2:Nat} {xs ys:Array Value} {a b:Value} {Q:Fin->Shared->Prop} (hh:A.handled=none) (D:ZipApart z TI TO i1 i2 l1 l2)
 (gz:IsZip s.heap z TI TO .none) (gI:IsPair s.heap TI (.ref i1) (.ref i2)) (gO:IsPair s.heap TO a b) (u1:IsQI p s.heap i1 l1 k1) (u2:IsQI q s.heap i2 l2 k2) (m1:IsQ p s.heap l1 xs) (m2:IsQ q s.heap l2 ys) (hend:xs[k1]? = none\/ys[k2]? = none)
 (hE:∀h' e,(∀c o,c≠z->c≠TO->c≠i1->c≠i2->s.heap.get? c=some o->h'.get? c=some o)->(∃o,h'.get? e=some o/\o.cls = .type "StopIteration")->E (.ref e) { s with heap:=h' }) :
 wpAny (model prog w) A (Builtin.«zip.__next__» ⟨[.ref z],[]⟩) Q E s:=by
 show wpAny _ _ (field (.ref z) 2 >>= λ_=>_) _ _ _;refine wpAny_bind (wpAny_field gz rfl (x:=.bool false) rfl ?_);show wpAny _ _ (field (.ref z) 3 >>= λ_=>_) _ _ _;refine wpAny_bind (wpAny_field gz rfl (x:=.ref TI) rfl (wpAny_bind (wpAny_seqItems gI rfl ?_)));show wpAny _ _ (Builtin.SmallTypes.ownedTupleIsFree (.ref z) >>= λ_=>_) _ _ _;unfold Builtin.SmallTypes.ownedTupleIsFree;refine wpAny_bind (wpAny_bind (wpAny_field gz rfl (x:=.none) rfl (wpAny_pure ?_)))
 simp only [if_true];refine wpAny_bind (wpAny_rule (wpAny_bind (wpAny_field gz rfl (x:=.ref TO) rfl (wpAny_bind (wpAny_setField_rec gz (by simp) λh₁ gz₁ s₁ => ?_)))));have gz₁:IsZip h₁ z TI TO .ellipsis:=gz₁;refine wpAny_bind ?_;simp only [List.zipIdx_cons,List.forIn_cons,List.zipIdx_nil,List.forIn_nil];cases hx:xs[k1]? with
 |none=>
  refine wpAny_bind (wpAny_bind (wpAny_onRaise (wpAny_bind (m:=Builtin.SmallTypes.nextOf (.ref i1)) (QQ hh (u1.ext s₁.extBut D.i1z) (m1.ext s₁.extBut D.l1z) hx λh₂ e s₂ he => ?_))));obtain⟨oe,ge,ce⟩:=he;have gz₂:IsZip h₂ z TI TO .ellipsis:=s₂ _ _ D.i1z.symm gz₁;have nez:e≠z:=λv=>by rw [v,gz₂]at ge;cases ge;simp at ce
  exact wpAny_setField_rec gz₂ (by simp) λh₃ _ s₃=>hE h₃ e (λc o c1 _ c3 _ v=>s₃.extBut _ _ c1 (s₂ _ _ c3 (s₁.extBut _ _ c1 v))) ⟨oe,s₃.extBut _ _ nez ge,ce⟩
 |some x=>
  have hy:ys[k2]? = none:=hend.resolve_left (by rw [hx];exact λv=>by cases v);refine wpAny_bind (wpAny_bind (wpAny_onRaise (wpAny_bind (m:=Builtin.SmallTypes.nextOf (.ref i1)) (Uj (u1.ext s₁.extBut D.i1z) (m1.ext s₁.extBut D.l1z) hx λh₂ u1₂ s₂=>wpAny_pure ?_))));have gO₂:IsPair h₂ TO a b:=s₂.extBut _ _ D.TOi1 (s₁.extBut _ _ D.TOz gO);refine wpAny_bind (wpAny_seqItems gO₂ rfl (wpAny_bind (wpAny_updateSeq_pair gO₂ λh₃ gO₃ s₃=>wpAny_bind (wpAny_letGo (wpAny_pure ?_)))))
  refine wpAny_bind (wpAny_bind (wpAny_onRaise (wpAny_bind (m:=Builtin.SmallTypes.nextOf (.ref i2)) (QQ hh (((u2.ext s₁.extBut D.i2z).ext s₂.extBut D.i12.symm).ext s₃.extBut D.TOi2.symm) (((m2.ext s₁.extBut D.l2z).ext s₂.extBut D.l2i1).ext s₃.extBut D.l2TO) hy λh₄ e s₄ he => ?_))));obtain⟨oe,ge,ce⟩:=he;have gz₄:IsZip h₄ z TI TO .ellipsis:=s₄ _ _ D.i2z.symm (s₃.extBut _ _ D.TOz.symm (s₂.extBut _ _ D.i1z.symm gz₁))
  have nez:e≠z:=λv=>by rw [v,gz₄]at ge;cases ge;simp at ce
  exact wpAny_setField_rec gz₄ (by simp) λh₅ _ s₅=>hE h₅ e (λc o c1 c2 c3 c4 v=>s₅.extBut _ _ c1 (s₄ _ _ c4 (s₃.extBut _ _ c2 (s₂.extBut _ _ c3 (s₁.extBut _ _ c1 v))))) ⟨oe,s₅.extBut _ _ nez ge,ce⟩
theorem Zbn {p q:Bool} {z TI TO i1 i2 l1 l2:Addr} {k1 k2:Nat} {xs ys:Array Value} {x y a b:Value} {Q:Option Value->Shared->Prop} (D:ZipApart z TI TO i1 i2 l1 l2)
 (gz:IsZip s.heap z TI TO .none) (gI:IsPair s.heap TI (.ref i1) (.ref i2)) (gO:IsPair s.heap TO a b) (u1:IsQI p s.heap i1 l1 k1) (u2:IsQI q s.heap i2 l2 k2) (m1:IsQ p s.heap l1 xs) (m2:IsQ q s.heap l2 ys) (hx:xs[k1]? = some x) (hy:ys[k2]? = some y)
 (hQ:∀h',IsZip h' z TI TO (rawInt s.heap.objs.size)->IsPair h' TO x y->IsQI p h' i1 l1 (k1+1)->IsQI q h' i2 l2 (k2+1)->IsPair h' s.heap.objs.size x y->h'.objs.size=s.heap.objs.size+1->(∀c o,c≠z->c≠TO->c≠i1->c≠i2->s.heap.get? c=some o->h'.get? c=some o)->Q (some (.ref s.heap.objs.size)) { s with heap:=h' }) :
 wpAny (model prog w) A (pyNext (.ref z)) Q E s:=by
 have tz:s.TypeIs (.ref z) "zip" := ⟨_,gz,rfl⟩
 unfold pyNext;exact wpAny_bind (wpAny_attempt (wpAny_callSpecial?_slot (name:=Str.ofString "__next__") tz F.slot_zip_next (wpAny_call_entry F.slot_zip_next tz F.entry_zip_next (Zd7 D gz gI gO u1 u2 m1 m2 hx hy λh' a1 a2 a3 a4 a5 a6 a7=>wpAny_pure (hQ h' a1 a2 a3 a4 a5 a6 a7)) (F.args_zip_next_1 _))))
theorem ZbH {p q:Bool} {z TI TO i1 i2 l1 l2:Addr} {k1 k2:Nat} {xs ys:Array Value} {a b:Value} {Q:Option Value->Shared->Prop} (hh:A.handled=none) (D:ZipApart z TI TO i1 i2 l1 l2)
 (gz:IsZip s.heap z TI TO .none) (gI:IsPair s.heap TI (.ref i1) (.ref i2)) (gO:IsPair s.heap TO a b) (u1:IsQI p s.heap i1 l1 k1) (u2:IsQI q s.heap i2 l2 k2) (m1:IsQ p s.heap l1 xs) (m2:IsQ q s.heap l2 ys) (hend:xs[k1]? = none\/ys[k2]? = none)
 (hQ:∀h',(∀c o,c≠z->c≠TO->c≠i1->c≠i2->s.heap.get? c=some o->h'.get? c=some o)->Q none { s with heap:=h' }):wpAny (model prog w) A (pyNext (.ref z)) Q E s:=by
 have tz:s.TypeIs (.ref z) "zip" := ⟨_,gz,rfl⟩
 unfold pyNext;refine wpAny_bind (wpAny_attempt (wpAny_callSpecial?_slot (name:=Str.ofString "__next__") tz F.slot_zip_next (wpAny_call_entry F.slot_zip_next tz F.entry_zip_next (ZeL hh D gz gI gO u1 u2 m1 m2 hend λh' e hk he => ?_) (F.args_zip_next_1 _))));obtain⟨o,go,co⟩:=he;exact wpAny_bind (wpAny_isInstance (T:="StopIteration") (b:=true) ⟨o,go,co⟩ isSubtype_stop (wpAny_pure (hQ _ hk)))
end
abbrev itO(k:Bool)(l:Addr):Obj:={ cls := .type (if k then "tuple_iterator" else "list_iterator"),data := .fields #[.ref l,.int 0 0] }
abbrev zq2(p q:Bool)(h:Heap)(l1 l2:Addr):Heap:=(h.push (itO p l1)).push (itO q l2)
abbrev zq3(p q:Bool)(h:Heap)(l1 l2:Addr):Heap:=(zq2 p q h l1 l2).push { cls := .type "tuple",data := .seq #[.ref h.objs.size,.ref (h.push (itO p l1)).objs.size] }
abbrev zq4(p q:Bool)(h:Heap)(l1 l2:Addr):Heap:=(zq3 p q h l1 l2).push { cls := .type "tuple",data := .seq #[.none,.none] }
abbrev zq5(p q:Bool)(h:Heap)(l1 l2:Addr):Heap:=(zq4 p q h l1 l2).push { cls := .type "zip",data := .fields #[.none,.bool false,.bool false,.ref (zq2 p q h l1 l2).objs.size,.ref (zq3 p q h l1 l2).objs.size] }
theorem ZcC(p q:Bool)(l1 l2:Addr)(xs ys:Array Value):Meets (Builtin.«zip.__new__» ⟨[.type "zip",.ref l1,.ref l2],[]⟩) (λ_ R s=>IsQ p s.heap l1 xs/\IsQ q s.heap l2 ys/\R (.ok (.ret (.ref (zq4 p q s.heap l1 l2).objs.size))) { s with heap:=zq5 p q s.heap l1 l2 }):=
 .of_wp λprog w A R s h=>by
  obtain⟨hp,g,d,tk,os⟩:=s;obtain⟨m1,m2,h⟩:=h;have hsub:=sub_zip;cases p<;>cases q
  · have e1:Heap.IsList (Shared.heap ⟨hp,g,d,tk,os⟩) l1 xs:=m1
    have e2:Heap.IsList (Shared.heap ⟨hp.push { cls := .type "list_iterator",data := .fields #[.ref l1,.int 0 0] },g,d,tk,os⟩) l2 ys:=Heap.IsList.push m2 _
    wp_walk using wpAny_pyIter_list e1,wpAny_pyIter_list e2
    exact⟨_,rfl,h⟩
  · have e1:Heap.IsList (Shared.heap ⟨hp,g,d,tk,os⟩) l1 xs:=m1
    have e2:Heap.IsTuple (Shared.heap ⟨hp.push { cls := .type "list_iterator",data := .fields #[.ref l1,.int 0 0] },g,d,tk,os⟩) l2 ys:=Heap.IsTuple.push m2 _
    wp_walk using wpAny_pyIter_list e1,wpAny_pyIter_tuple e2
    exact⟨_,rfl,h⟩
  · have e1:Heap.IsTuple (Shared.heap ⟨hp,g,d,tk,os⟩) l1 xs:=m1
    have e2:Heap.IsList (Shared.heap ⟨hp.push { cls := .type "tuple_iterator",data := .fields #[.ref l1,.int 0 0] },g,d,tk,os⟩) l2 ys:=Heap.IsList.push m2 _
    wp_walk using wpAny_pyIter_tuple e1,wpAny_pyIter_list e2
    exact⟨_,rfl,h⟩
  · have e1:Heap.IsTuple (Shared.heap ⟨hp,g,d,tk,os⟩) l1 xs:=m1
    have e2:Heap.IsTuple (Shared.heap ⟨hp.push { cls := .type "tuple_iterator",data := .fields #[.ref l1,.int 0 0] },g,d,tk,os⟩) l2 ys:=Heap.IsTuple.push m2 _
    wp_walk using wpAny_pyIter_tuple e1,wpAny_pyIter_tuple e2
    exact⟨_,rfl,h⟩
theorem Zfx(k:Bool){h:Heap}{a l:Addr}(e:h.get? a=some (itO k l)):IsQI k h a l 0:=by
 cases k with
 |true=>exact⟨_,e,rfl,rfl⟩
 |false=>exact⟨_,e,rfl,rfl⟩
section
variable{prog:Program}{w:World}{A:Around}{E:Value->Shared->Prop}{s:Shared}
end
end PySem
namespace L2
open PySem PySem.Spec PyProof.Rows
def SqQ(k:Bool)(K:PySem.W.Frag)(H:Hp)(a:Addr)(xs:List V):Prop:=match k with
 |true=>SqT K H a xs
 |false=>SqL K H a xs
theorem Inv.seqQ{X:Cx}{pins:List (Addr×Obj)}{σ:St}{H:Hp}{s:Shared}{k:Bool}{a:Addr}{xs:List V}(I:Inv X pins σ H s)(h:SqQ k X.K H a xs):∃its:List Value,Vals xs its/\IsQ k s.heap a its.toArray/\xs.length<=sizeLine:=by
 cases k with
 |true=>exact I.tuple h
 |false=>
  obtain⟨its,r,p,z⟩:=I.list h;exact⟨its,r,p.isList,z⟩
section
variable{X:Cx}{elts:List Expr}{x1:Nat}{tpos:Pos}
end
end L2
namespace DL
open PySem PySem.Spec L2
section
variable{cA:Kn}{G:Cn}{ow:List Nat}
theorem ZeM{k:Bool}{K:PySem.W.Frag}{H H':Hp}{a:Addr}{xs:List V}(e:Same H H')(h:SqQ k K H a xs):SqQ k K H' a xs:=by
 cases k with
 |false=>exact Same.seq e h
 |true=>
  rcases h with(h|⟨o,h⟩)|h
  · exact .inl (.inl (e _ _ h))
  · exact .inl (.inr ⟨o,e _ _ h⟩)
  · exact .inr h
def Zf1:D->Option (List D)
 | .lst xs=>some xs
 | .tup xs=>some xs
 |_=>none
end
end DL
namespace DL
open PySem PySem.Spec PyProof.Rows L2
section
variable{X:Cx}{K:PySem.W.Frag}{cA:Kn}
variable{G:Cn}{ow:List Nat}
open Classical in
end
end DL
namespace DL
open PySem PySem.Spec L2
def Xx{α:Type}(k:List Key):List (List Key)->List α->Option α
 |k0::ks,x::xs=>if k0=k then some x else Xx k ks xs
 |_,_=>none
def Y1{α:Type}(k:List Key)(d:α):List (List Key)->List α->List α
 |k0::ks,x::xs=>(if k0=k then d else x)::Y1 k d ks xs
 |_,xs=>xs
def Y2(k:List Key):List (List Key)->Bool
 | []=>false
 |k0::ks=>decide (k0=k)||Y2 k ks
def Uk(ks:List (List Key))(xs:List D)(k:List Key)(d:D):D:=if Y2 k ks=true then .dtt ks (Y1 k d ks xs)else .dtt (ks++[k]) (xs++[d])
theorem Za8{α:Type}(k:List Key)(d:α):∀(ks:List (List Key))(xs:List α),(Y1 k d ks xs).length=xs.length
 | [],_=>rfl
 |_::_,[]=>rfl
 |k0::ks,x::xs=>by rw [Y1,List.length_cons,List.length_cons,Za8 k d ks xs]
theorem ZaH(k:List Key):∀(ks:List (List Key))(vs:List V),ks.length=vs.length->((ks.zip vs).any λkv=>decide (kv.1=k))=Y2 k ks
 | [],_,_=>rfl
 |k0::ks,[],h=>by simp at h
 |k0::ks,v::vs,h=>by
  rw [List.zip_cons_cons,List.any_cons,ZaH k ks vs (by simpa using h)];rfl
theorem Zd8(k:List Key){ks:List (List Key)}{vs:List V}(h:ks.length=vs.length):(Zz (ks.zip vs) k).isSome=Y2 k ks:=by rw [<-Vv,ZaH k ks vs h]
theorem Zca(k:List Key)(v:V):∀(ks:List (List Key))(vs:List V),ks.length=vs.length->(ks.zip vs).map (λkv=>if kv.1=k then(kv.1,v)else kv)=ks.zip (Y1 k v ks vs)
 | [],_,_=>by simp
 |k0::ks,[],h=>by simp at h
 |k0::ks,x::vs,h=>by
  rw [List.zip_cons_cons,List.map_cons,Y1,List.zip_cons_cons,Zca k v ks vs (by simpa using h)]
  by_cases e:k0=k
  · simp [e]
  · simp [e]
section
variable{cA:Kn}{av:Addr->Prop}{H:Hp}
theorem Za9(k:List Key):∀{ks:List (List Key)}{xs:List D}{vs:List V}{x:D},RepL cA av H xs vs->Xx k ks xs=some x->∃v,Zz (ks.zip vs) k=some v/\Rep cA av H x v
 | [],xs,vs,x,_,h=>by cases h
 |k0::ks,[],vs,x,_,h=>by cases h
 |k0::ks,y::xs,vs,x,l,h=>by
  obtain⟨v,r,rfl,h1,h2⟩:=l.uncons;rw [List.zip_cons_cons];unfold Xx at h
  by_cases e:k0=k
  · rw [if_pos e]at h
    cases h;exact⟨v,YX e,h1⟩
  · rw [if_neg e]at h
    obtain⟨u,h3,h4⟩:=Za9 k h2 h;exact⟨u,(YY e).trans h3,h4⟩
theorem Zba(k:List Key){d:D}{v:V}(hd:Rep cA av H d v):∀(ks:List (List Key)){xs:List D}{vs:List V},RepL cA av H xs vs->RepL cA av H (Y1 k d ks xs) (Y1 k v ks vs)
 | [],xs,vs,l=>l
 |k0::ks,[],vs,l=>by rw [l.nil_of];exact .nil
 |k0::ks,y::xs,vs,l=>by
  obtain⟨u,r,rfl,h1,h2⟩:=l.uncons;rw [Y1,Y1];refine .cons ?_ (Zba k hd ks h2)
  by_cases e:k0=k
  · rw [if_pos e,if_pos e];exact hd
  · rw [if_neg e,if_neg e];exact h1
theorem ZeN(k:List Key){d:D}{v:V}{ks:List (List Key)}{xs:List D}{vs:List V}{a:Addr}{H':Hp}(hks:ks.length=xs.length)(l:RepL cA av H' xs vs)(hd:Rep cA av H' d v)(e:H' a=some (.dT (ZF (ks.zip vs) k v))):Own cA av H' (Uk ks xs k d) a:=by
 have hl:ks.length=vs.length:=by rw [hks,l.length]
 unfold ZF at e;rw [ZaH k ks vs hl]at e;unfold Uk
 by_cases h:Y2 k ks=true
 · rw [if_pos h,Zca k v ks vs hl]at e
   rw [if_pos h];exact⟨_,e,by rw [Za8];exact hks,Zba k hd ks l⟩
 · rw [if_neg h]at e
   rw [if_neg h];refine⟨vs++[v],?_,by rw [List.length_append,List.length_append,hks];rfl,l.append (.cons hd .nil)⟩;rw [e,List.zip_append hl];rfl
end
section
variable{G:Cn}{ow owN owB owC ow1:List Nat}{H0 H:Hp}{av:Addr->Prop}{A:Nat->Option Addr}{σ:L2.St}{δ:Env}
theorem ZeO{i:Nat}{ks:List (List Key)}{xs:List D}{vs:List V}{p:Addr}(E:ER G ow H0 av A σ H δ)(hp:H p=none)(hks:ks.length=xs.length)(l:RepL G.1 (AV av A) H xs vs)(hw:∀j,j∈ow1 ↔ j∈ow\/j=i)(hn:G.2 i=none) :
 ER G ow1 H0 av (λj=>if j=i then some p else A j) (σ.set i (some (.ref p))) (upd H p (.dT (ks.zip vs))) (δ.set i (some (.dtt ks xs))):=by
 have hs:Same H (upd H p (.dT (ks.zip vs))):=Yh hp
 have less:∀b,AV av (λj=>if j=i then some p else A j) b->AV av A b\/H b=none:=λb z=>by
  rcases z with z|⟨j,z⟩
  · exact .inl (.inl z)
  · by_cases e:j=i
    · simp [e]at z;subst z;exact .inr hp
    · simp [e]at z;exact .inl (.inr ⟨j,z⟩)
 have np:∀j a,A j=some a->a≠p:=λj a e z=>by subst z;exact E.live j a e hp
 have h0:H0 p=none:=by
  cases q:H0 p with
  |none=>rfl
  |some o=>rw [E.same p o q]at hp;cases hp
 refine⟨E.same.trans hs,E.avd,λj a e => ?_,λj k a e1 e2 => ?_,λj a e => ?_,λj e => ?_,λj hj => ?_,by simp [E.len],λj a e=>(by
  have q:j≠i:=λz=>by rw [z,hn]at e;cases e
  simp only [q,if_false];exact E.pin j a e),(λj v' e=>by
  have q:j≠i:=λz=>by rw [z,hn]at e;cases e
  rw [List.getElem?_set_ne (Ne.symm q)];exact E.kept j v' e),λj d' e => ?_⟩
 · by_cases q:j=i
   · simp [q]at e;subst e;exact h0
   · simp [q]at e;exact E.fr j a e
 · by_cases q:j=i
   · by_cases q2:k=i
     · rw [q,q2]
     · simp [q]at e1;simp [q2]at e2
       exact absurd e1.symm (np k a e2)
   · by_cases q2:k=i
     · simp [q]at e1;simp [q2]at e2
       exact absurd e2.symm (np j a e1)
     · simp [q]at e1;simp [q2]at e2;exact E.inj j k a e1 e2
 · by_cases q:j=i
   · simp [q]at e;subst e;rw [Zm];exact λz=>by cases z
   · simp [q]at e
     rw [Zc (np j a e)];exact E.live j a e
 · by_cases q:j=i
   · exact(hw j).mpr (.inr q)
   · simp [q]at e;exact(hw j).mpr (.inl (E.dom j e))
 · by_cases q:j=i
   · simp [q]
   · simp [q]
     exact E.dom' j (((hw j).mp hj).resolve_right q)
 · rcases UP e with⟨rfl,rfl,hl⟩|⟨q,e'⟩
   · refine⟨.ref p,?_,λz=>by simp at z,λa z => ?_⟩
     · rw [List.getElem?_set_self (by rw [E.len];exact hl)]
     · simp at z
       subst z;exact⟨rfl,vs,Zm,hks,(l.av less).same hs⟩
   · obtain⟨v',h1,h2,h3⟩:=E.var j d' e'
     refine⟨v',by rw [List.getElem?_set_ne (Ne.symm q)];exact h1,λz => ?_,λa z => ?_⟩
     · simp [q]at z
       exact((h2 z).av less).same hs
     · simp [q]at z
       obtain⟨r1,r2⟩:=h3 a z;refine⟨r1,?_⟩;cases d' with
       |lst xs=>obtain⟨vs',q1,q2⟩:=r2;exact⟨vs',hs _ _ q1,(q2.av less).same hs⟩
       |obj c ks xs=>obtain⟨dx,vs',q1,q0,q2⟩:=r2;exact⟨dx,vs',hs _ _ q1,q0,(q2.av less).same hs⟩
       |dct ks xs=>obtain⟨vs',q1,q0,q2⟩:=r2;exact⟨vs',hs _ _ q1,q0,(q2.av less).same hs⟩
       |dtt ks xs=>obtain⟨vs',q1,q0,q2⟩:=r2;exact⟨vs',hs _ _ q1,q0,(q2.av less).same hs⟩
       |_=>exact r2
def Zki(G:Cn)(ow:List Nat)(te:TE)(ε:Env->Option D):Prop:=
 ∀H0 av A σ H δ,ER G ow H0 av A σ H δ->∀d,ε δ=some d->∀Q:VK,(∀p ks vs xs H1,Same H H1->H1 p=none->ks.length=xs.length->RepL G.1 (AV av A) H1 xs vs->d = .dtt ks xs->Q (.ref p) (upd H1 p (.dT (ks.zip vs))))->te σ H Q
theorem ZaI{te:TE}{ε:Env->Option D}(i:Nat)(h:Zki G ow te ε)(hn:G.2 i=none)(h1:sub owN (i::ow)=true)(h2:owN.contains i=true)(h3:sub ow owN=true):VS G ow owN owB owC (ZV te (ZG i)) (Zi i ε):=λH0 av A σ H δ E o e De k=>by
 unfold Zi at e;cases he:ε δ with
 |none=>rw [he]at e;cases e
 |some d=>
  rw [he]at e;cases e;refine h H0 av A σ H δ E d he _ λp ks vs xs H1 s hp hk l hd => ?_
  subst hd;exact k _ _ _ (ZeO (E.mono s) hp hk l (J6 h1 h2 h3) hn)
def UV:List D->Option (List Key)
 | []=>some []
 |x::xs=>match XT x,UV xs with
  |some k,some ks=>some (k::ks)
  |_,_=>none
def YE:D->Option (List Key)
 | .tup xs=>UV xs
 |_=>none
theorem Zas{cA:Kn}{av:Addr->Prop}{H:Hp}:∀{xs:List D}{ks:List Key}{vs:List V},UV xs=some ks->RepL cA av H xs vs->vs=ks.map kV
 | [],ks,vs,h,l=>by cases h;exact l.nil_of
 |x::xs,ks,vs,h,l=>by
  obtain⟨v,r,rfl,h1,h2⟩:=l.uncons;unfold UV at h;cases hk:XT x with
  |none=>rw [hk]at h;cases h
  |some k=>
   cases hks:UV xs with
   |none=>rw [hk,hks]at h;cases h
   |some ks'=>
    rw [hk,hks]at h;cases h;obtain⟨e1,e2⟩:=Zao hk;rw [List.map_cons,Zas hks h2,h1.val e2,e1]
theorem QR{cA:Kn}{av:Addr->Prop}{H:Hp}{x:D}{k:List Key}{v:V}(h:YE x=some k)(r:Rep cA av H x v):∃b,v = .ref b/\H b=some (.tup (k.map kV)):=by
 cases x<;>first|(cases h;done)|skip
 obtain⟨a,vs,rfl,_,hH,l⟩:=r;exact⟨a,rfl,by rw [hH,Zas h l]⟩
def VN(neg:Bool):D->D->Option D
 |x,.dtt ks _=>match YE x with
  |some k=>some (.bl (neg != Y2 k ks))
  |none=>none
 |_,_=>none
theorem Zd9{neg:Bool}{x y d:D}(h:VN neg x y=some d):∃ks xs k,y = .dtt ks xs/\YE x=some k/\d = .bl (neg != Y2 k ks):=by
 unfold VN at h
 split at h
 · rename_i ks xs
   cases hk:YE x with
   |none=>rw [hk]at h;cases h
   |some k=>rw [hk]at h;exact⟨ks,xs,k,rfl,rfl,(Option.some.inj h).symm⟩
 · cases h
theorem ZcD{ta tb:TE}{qa qb:Ql}{a b:Env->Option D}(ha:VE G ow ta qa a)(hb:VE G ow tb qb b):VE G ow (Zdb ta tb) .cl (eOp (VN true) a b):=λH0 av A σ H δ E d e Q k=>by
 obtain⟨x,y,ex,ey,ed⟩:=Qz e;obtain⟨ks,xs,kk,rfl,hk,rfl⟩:=Zd9 ed;refine ha H0 av A σ H δ E _ ex _ λv H1 s1 r1=>hb H0 av A σ H1 δ (E.mono s1) _ ey _ λw H2 s2 r2 => ?_
 obtain⟨b,rfl,hbb⟩:=QR hk r1.any;obtain⟨p,vs,rfl,_,rd,hl,l⟩:=r2.tp;refine⟨p,_,rfl,DGet.t rd (s2 _ _ hbb),?_⟩;rw [Zd8 kk (hl.trans l.length)];have:=k (.bl (true != Y2 kk ks)) H2 (s1.trans s2) blq;rw [Bool.true_bne]at this;exact this
def VO:D->D->Option D
 | .dtt ks xs,x=>match YE x with
  |some k=>Xx k ks xs
  |none=>none
 |_,_=>none
theorem ZcE{x y d:D}(h:VO y x=some d):∃ks xs k,y = .dtt ks xs/\YE x=some k/\Xx k ks xs=some d:=by
 unfold VO at h
 split at h
 · rename_i ks xs
   cases hk:YE x with
   |none=>rw [hk]at h;cases h
   |some k=>rw [hk]at h;exact⟨ks,xs,k,rfl,rfl,h⟩
 · cases h
theorem ZeP{ta tb:TE}{qa qb:Ql}{a b:Env->Option D}(hq:qa = .cl\/qa = .tp)(ha:VE G ow ta qa a)(hb:VE G ow tb qb b):VE G ow (UG ta tb) .cl (eOp VO a b):=λH0 av A σ H δ E d e Q k=>by
 obtain⟨y,x,ey,ex,ed⟩:=Qz e;obtain⟨ks,xs,kk,rfl,hk,hlk⟩:=ZcE ed;refine ha H0 av A σ H δ E _ ey _ λv H1 s1 r1=>hb H0 av A σ H1 δ (E.mono s1) _ ex _ λw H2 s2 r2 => ?_
 obtain⟨b,rfl,hbb⟩:=QR hk r2.any
 have r3:RepT G.1 av (AV av A) H2 (.dtt ks xs) v:=by
  have:=(r1.same s2).tp;rcases hq with rfl|rfl<;>exact this
 obtain⟨p,vs,rfl,_,rd,hl,l⟩:=r3;obtain⟨u,h1,h2⟩:=Za9 kk l hlk;refine⟨p,u,rfl,?_,k u H2 (s1.trans s2) h2.t⟩;rw [<-h1];exact DGet.t rd hbb
def Xe(i:Nat)(κ ε:Env->Option D)(δ:Env):Option Out:=match ε δ,Za i δ,κ δ with
 |some d,some (.dtt ks xs),some x=>match YE x with
  |some k=>if ks.length<sizeLine then some (.nx (δ.set i (some (Uk ks xs k d))))else none
  |none=>none
 |_,_,_=>none
theorem ZbI{i:Nat}{κ ε:Env->Option D}{δ:Env}{o:Out}(h:Xe i κ ε δ=some o):∃d ks xs x k,ε δ=some d/\Za i δ=some (.dtt ks xs)/\κ δ=some x/\YE x=some k/\ks.length<sizeLine/\o = .nx (δ.set i (some (Uk ks xs k d))):=by
 unfold Xe at h
 split at h
 · rename_i d ks xs x h1 h2 h3
   cases hk:YE x with
   |none=>rw [hk]at h;cases h
   |some k=>
    rw [hk]at h;dsimp only at h
    by_cases hz:ks.length<sizeLine
    · rw [if_pos hz]at h
      exact⟨d,ks,xs,x,k,h1,h2,h3,hk,hz,(Option.some.inj h).symm⟩
    · rw [if_neg hz]at h;cases h
 · cases h
theorem ZaJ{te ti:TE}{q:Ql}{ε κ:Env->Option D}(i:Nat)(hi:ow.contains i=true)(h:VE G ow te .cl ε)(hk:VE G ow ti q κ):VS G ow ow owB owC (UH (Zq i) ti te) (Xe i κ ε):=λH0 av A σ H δ E o e De k=>by
 obtain⟨d,ks,xs,x,kk,e1,e2,e3,hkk,hz,rfl⟩:=ZbI e;have hi':i∈ow:=by simpa using hi
 cases hA:A i with
 |none=>exact absurd hA (E.dom' i hi')
 |some a=>
  refine h H0 av A σ H δ E d e1 _ λv H1 s1 r1 => ?_
  have E1:=E.mono s1;obtain⟨u,g1,_,g3⟩:=E1.var i _ (ZT e2);refine⟨u,g1,hk H0 av A σ H1 δ E1 _ e3 _ λy H2 s2 r2 => ?_⟩;have E2:=E1.mono s2;obtain⟨u',g1',_,g3'⟩:=E2.var i _ (ZT e2);obtain⟨rfl,vs,q1,q0,q2⟩:=g3' a hA;have eu:u = .ref a:=(g3 a hA).1;subst eu;obtain⟨b,rfl,hbb⟩:=QR hkk r2.any;refine⟨a,_,rfl,DPut.t q1 hbb ?_,k A σ _ (E2.put hA (ZT e2) (λb o hb e=>by rw [Zc hb];exact e) (by rw [Zm];exact λz=>by cases z) ?_)⟩
  · have:(ks.zip vs).length=ks.length:=by rw [List.length_zip,<-q2.length,q0];omega
    rw [this];exact hz
  · have ex : ∀ b o, ¬ AV av A b -> H2 b = some o -> upd H2 a (.dT (ZF (ks.zip vs) kk v)) b = some o := fun b o n e => by
     rw [Zc λz=>n (.inr ⟨i,by rw [z];exact hA⟩)];exact e
    exact ZeN kk q0 (q2.ext ex) ((RepT.r (r1.same s2)).ext ex) Zm
end
end DL
namespace L2
open PySem PySem.Spec PyProof.Rows
section
variable{X:Cx}
end
end L2
namespace DL
open PySem PySem.Spec L2
section
variable{G:Cn}{ow owN owB owC ow1:List Nat}
open Classical in
end
end DL
namespace L2
open PySem PySem.Spec PyProof.Rows
section
variable{X:Cx}
end
end L2
namespace DL
open PySem PySem.Spec L2
section
variable{G:Cn}{ow owN owB owC ow1:List Nat}
end
end DL
namespace DL
open PySem PySem.Spec L2
section
variable{cA:Kn}{G:Cn}{ow owN owB owC:List Nat}
theorem RepL.dropLast{av:Addr->Prop}{H:Hp}:∀{xs:List D}{vs:List V},RepL cA av H xs vs->RepL cA av H xs.dropLast vs.dropLast
 | [],vs,h=>by rw [h.nil_of];exact .nil
 | [x],vs,h=>by
  obtain⟨v,r,rfl,_,t⟩:=h.uncons;rw [t.nil_of];exact .nil
 |x::y::xs,vs,h=>by
  obtain⟨v,r,rfl,h1,t⟩:=h.uncons;obtain⟨w,r',rfl,h2,t2⟩:=t.uncons;exact .cons h1 (RepL.dropLast (xs:=y::xs) (vs:=w::r') t)
end
end DL
namespace DL
open PySem PySem.Spec L2
section
variable{X:Cx}{cA:Kn}
open Classical in
end
end DL
namespace DL
open PySem PySem.Spec L2
section
variable{cA:Kn}{G:Cn}{ow owN owB owC ow1:List Nat}{i:Nat}{H0 H H':Hp}{av:Addr->Prop}{A:Nat->Option Addr}{σ:L2.St}{δ:Env}
open Classical in
end
end DL
namespace DL
open PySem PySem.Spec L2
section
variable{cA:Kn}{G:Cn}{ow owN owB owC ow1:List Nat}{i:Nat}{H0 H H':Hp}{av:Addr->Prop}{A A':Nat->Option Addr}{σ σ':L2.St}{δ δ1:Env}
end
end DL
namespace DL
open PySem PySem.Spec L2
section
variable{cA:Kn}{G:Cn}{ow owN owB owC ow1:List Nat}{i:Nat}
open Classical in
end
end DL
namespace DL
open PySem PySem.Spec L2
section
variable{G:Cn}{ow ow1:List Nat}
end
end DL
namespace L2
open PySem PySem.Spec PyProof.Rows
structure CompSd(X:Cx)(scope:Scope)(tn cn:List Str)(js:List Nat):Prop where
 kind:scope.kind = .function
 own:∀y∈scope.names,y.2 = .cell->scope.names.lookup y.1=some .cell
 names:∀y∈scope.names,y.2 = .local->scope.names.lookup y.1=some .local
 free:∀y∈scope.names,y.2 = .free->X.env.kindOf y.1=some .cell\/X.env.kindOf y.1=some .free
 cap:∀(k:Nat)(x:Str),cn[k]? = some x->∃j,js[k]? = some j/\X.N[j]? = some x/\(X.env.kindOf x=some .cell\/X.env.kindOf x=some .free)/\scope.names.lookup x=some .free
 len:cn.length=js.length
section
variable{X:Cx}{pins:List (Addr×Obj)}{σ:St}{H₂:Hp}{s₂:Shared}{scope:Scope}{tn cn:List Str}{js:List Nat}
end
section
variable{X:Cx}{tg iter elt:Expr}{ifs:List Expr}{scope:Scope}{pos:Pos}{wi:TI}{g:TG}{tt:TT}{te:TE}{tn cn:List Str}{js:List Nat}
end
end L2
namespace PySem
abbrev Vh(h:Heap)(z TI TO:Addr)(f0 f1:Value):Prop:=
 h.get? z=some { cls := .type "zip",dict:=none,data := .fields #[f0,f1,.bool false,.ref TI,.ref TO],slots := #[] }
section
variable{prog:Program}{w:World}{A:Around}{E:Value->Shared->Prop}{s:Shared}
theorem Zai{M:Model}{a:Addr}{Q:Option Obj->Shared->Prop}(h:Q (s.heap.get? a) s):wpAny M A (loadIfAlive a) Q E s:=λΓ p hΓ=>by
 show Sem.wp M Γ (Sem.loadIfAlive a Sem.pure) _ _ p s;rw [Sem.wp_loadIfAlive];exact h
theorem Zab {z TI TO T:Addr} {b:Bool} {o:Obj} {Q:Bool->Shared->Prop} (hz:Vh s.heap z TI TO (rawInt T) (.bool b)) (hT:s.heap.get? T=some o)
 (h:∀h' b',Vh h' z TI TO (rawInt T) (.bool b')->Heap.SameBut z s.heap h'->Q false { s with heap:=h' }):wpAny (model prog w) A (Builtin.SmallTypes.ownedTupleIsFree (.ref z)) Q E s:=by
 unfold Builtin.SmallTypes.ownedTupleIsFree;refine wpAny_bind (wpAny_field hz rfl (x:=rawInt T) rfl ?_);show wpAny _ _ (loadIfAlive _ >>= _) _ _ _;refine wpAny_bind (Zai ?_);have e:((T:Int)).toNat=T:=Int.toNat_natCast T;rw [e,hT];show wpAny _ _ (field (.ref z) 1 >>= _) _ _ _;refine wpAny_bind (wpAny_field hz rfl (x:=.bool b) rfl ?_);cases b with
 |true=>exact wpAny_pure (h _ true hz (Heap.SameBut.refl ..))
 |false=>
  show wpAny _ _ (setField (.ref z) 1 (.bool true) >>= _) _ _ _;refine wpAny_bind (wpAny_setField_rec hz (by simp) λh₁ hz₁ hs₁ => ?_);exact wpAny_pure (h h₁ true hz₁ hs₁)
structure ZipSt(h:Heap)(z TI TO i1 i2 l1 l2:Addr)(i:Nat):Prop where
 zip:∃f0 b,Vh h z TI TO f0 (.bool b)/\((f0 = .none/\b=false)\/∃T o,f0=rawInt (T:Nat)/\h.get? T=some o)
 TI:IsPair h TI (.ref i1) (.ref i2)
 TO:∃a b,IsPair h TO a b
 it1:h.IsListIter i1 l1 i
 it2:h.IsListIter i2 l2 i
def QS(h:Heap)(lo:Nat)(xs ys acc:Array Value)(i:Nat):Prop:=acc.size=i/\(∀(j:Nat)(v:Value),acc[j]? = some v->∃(T:Nat) (x y:Value),v=Value.ref T/\lo<=T/\xs[j]? = some x/\ys[j]? = some y/\IsPair h T x y)/\∀(j k:Nat)(v:Value),acc[j]? = some v->acc[k]? = some v->j=k
theorem ZcF:typeLookup (.type "zip") "__len__" = pure none:=by rw [typeLookup_type,builtinLookup_eq_fast];kernel_rfl
theorem ZbJ:typeLookup (.type "zip") "__length_hint__" = pure none:=by rw [typeLookup_type,builtinLookup_eq_fast];kernel_rfl
end
end PySem
namespace L2
open PySem PySem.Spec PyProof.Rows
end L2
namespace L2
open PySem PySem.Spec PyProof.Rows
theorem Zbb:∀ps:List Addr,Vals (ps.map V.ref) (ps.map Value.ref)
 | [] => .nil
 |p::ps => .cons rfl (Zbb ps)
def QT:Value->Addr
 | .ref a=>a
 |_=>0
section
variable{X:Cx}
open Classical in
end
end L2
namespace DL
open PySem PySem.Spec L2
section
variable{cA:Kn}{G:Cn}{ow:List Nat}
theorem Zdn{av:Addr->Prop}{H:Hp}:∀{xs ys:List D}{vs ws:List V}{ps:List Addr},RepL cA av H xs vs->RepL cA av H ys ws->ps.length=min xs.length ys.length ->
 (∀(k:Nat)(p:Addr),ps[k]? = some p->∃x y,vs[k]? = some x/\ws[k]? = some y/\¬av p/\H p=some (.tup [x,y]))->RepL cA av H (VC xs ys) (ps.map V.ref)
 | [],ys,vs,ws,ps,_,_,hl,_=>by
  rw [List.length_nil,Nat.zero_min]at hl;rw [List.length_eq_zero_iff.mp hl];exact .nil
 |x::xs,[],vs,ws,ps,_,_,hl,_=>by
  rw [List.length_nil,Nat.min_zero]at hl;rw [List.length_eq_zero_iff.mp hl];exact .nil
 |x::xs,y::ys,vs,ws,ps,h1,h2,hl,hp=>by
  obtain⟨v,r,rfl,a1,t1⟩:=h1.uncons;obtain⟨w,r',rfl,a2,t2⟩:=h2.uncons;rw [List.length_cons,List.length_cons]at hl;cases ps with
  |nil=>simp at hl
  |cons p ps=>
   refine .cons ?_ (Zdn t1 t2 (by rw [List.length_cons]at hl;omega) λk q hk=>by
    obtain⟨x,y,g1,g2,g3,g4⟩:=hp (k+1) q (by simpa using hk);exact⟨x,y,by simpa using g1,by simpa using g2,g3,g4⟩)
   obtain⟨x',y',g1,g2,g3,g4⟩:=hp 0 p rfl;cases g1;cases g2;unfold Rep;exact⟨p,[v,w],rfl,g3,g4,.cons a1 (.cons a2 .nil)⟩
end
end DL
namespace L2
open PySem PySem.Spec PyProof.Rows
end L2
namespace DL
open PySem PySem.Spec L2
end DL
namespace DL
open PySem PySem.Spec L2
section
variable{cA:Kn}{G:Cn}{ow owN owB owC:List Nat}{H0 H H':Hp}{av:Addr->Prop}{A:Nat->Option Addr}{σ:L2.St}{δ:Env}
def Vi(i j:Nat)(δ:Env):Option Out:=match Za j δ with
 |some (.lst xs)=>match xs[xs.length-1]? with
  |some y=>some (.nx ((δ.set j (some (.lst xs.dropLast))).set i (some y)))
  |none=>none
 |_=>none
theorem Zig(i j:Nat)(hj:ow.contains j=true)(hn:G.2 i=none)(h1:sub owN ow=true)(h2:owN.contains i=false)(h3:sub ow (i::owN)=true) :
 VS G ow owN owB owC (ZV (JP G.1.K "list" rPop (Zq j)) (ZG i)) (Vi i j):=λH0 av A σ H δ E o e De k=>by
 unfold Vi at e
 split at e
 · rename_i xs ev
   cases hy:xs[xs.length-1]? with
   |none=>rw [hy]at e;cases e
   |some y=>
    rw [hy]at e;cases e;have hj':j∈ow:=by simpa using hj
    cases hA:A j with
    |none=>exact absurd hA (E.dom' j hj')
    |some a=>
     obtain⟨v0,g1,_,g3⟩:=E.var j _ (ZT ev);obtain⟨rfl,vs,q1,q2⟩:=g3 a hA;obtain⟨vy,hvy,ry⟩:=q2.get hy
     have xt:∀b o,¬AV av A b->H b=some o->upd H a (.lst vs.dropLast) b=some o:=λb o nb e=>by
      rw [Zc λz=>nb (.inr ⟨j,by rw [z];exact hA⟩)];exact e
     have E2:=E.put hA (ZT ev) (H':=upd H a (.lst vs.dropLast)) (d' := .lst xs.dropLast) (λb o hb e=>by rw [Zc hb];exact e) (by rw [Zm];exact λz=>by cases z) ⟨_,Zm,(RepL.dropLast q2).ext xt⟩;refine⟨_,g1,.inl ⟨rfl,vs,SqL.of q1⟩,a,vs,vy,rfl,rfl,q1,by rw [<-q2.length];exact hvy,?_⟩;exact k _ _ _ (E2.set (ry.ext xt) (UQ h1 h2 h3) hn)
 · cases e
end
end DL
namespace DL
open PySem PySem.Spec PyProof.Rows L2
section
variable{prog:Program}{w:World}{A:Around}{E:Value->Shared->Prop}{s:Shared}{l:Addr}{xs:Array (Int×Tok)}
end
section
variable{X:Cx}{K:PySem.W.Frag}{cA:Kn}
end
end DL
namespace DL
open PySem PySem.Spec L2
section
variable{cA:Kn}{G:Cn}{ow:List Nat}
def NewL(H0 H:Hp)(vs:List V):Prop:=∀v∈vs,∃b ws,v = .ref b/\H b=some (.lst ws)/\H0 b=none
theorem NewL.same{H0 H H':Hp}{vs:List V}(h:NewL H0 H vs)(s:Same H H'):NewL H0 H' vs:=λv hv=>let⟨b,ws,e,r,f⟩:=h v hv;⟨b,ws,e,s _ _ r,f⟩
mutual
theorem Rep.kind{av:Addr->Prop}{H H':Hp}:∀{d:D}{v:V},frz d=true->(∀b o,H b=some o->(∀vs,o ≠ .lst vs)->H' b=some o)->Rep cA av H d v->Rep cA av H' d v
 | .non,_,_,_,h=>h
 | .bl _,_,_,_,h=>h
 | .int _,_,_,_,h=>h
 | .str _,_,_,_,h=>h
 | .lst xs,v,hf,k,h=>by cases hf
 | .tup xs,v,hf,k,h=>by
  unfold DL.frz at hf;unfold Rep at h ⊢;obtain⟨a,vs,e,n,r,l⟩:=h;exact⟨a,vs,e,n,k _ _ r (λ_ z=>by cases z),RepL.kind hf k l⟩
 | .obj c ks xs,v,hf,k,h=>by
  unfold DL.frz at hf;unfold Rep at h ⊢;obtain⟨a,dx,vs,e,n,r,z,l⟩:=h;exact⟨a,dx,vs,e,n,k _ _ r (λ_ z=>by cases z),z,RepL.kind hf k l⟩
 | .dct ks xs,v,hf,k,h=>by cases hf
 | .dtt ks xs,v,hf,k,h=>by cases hf
theorem RepL.kind{av:Addr->Prop}{H H':Hp}:∀{xs:List D}{vs:List V},frzL xs=true->(∀b o,H b=some o->(∀vs,o ≠ .lst vs)->H' b=some o)->RepL cA av H xs vs->RepL cA av H' xs vs
 | [],_,_,_,h=>h
 |x::xs,vs,hf,k,h=>by
  unfold DL.frzL at hf;rw [Bool.and_eq_true]at hf;unfold RepL at h ⊢;obtain⟨v,r,e,h1,h2⟩:=h;exact⟨v,r,e,Rep.kind hf.1 k h1,RepL.kind hf.2 k h2⟩
end
structure Turned(H0 H H':Hp)(S:Addr->Prop):Prop where
 else_:∀b,¬S b->H' b=H b
 lst:∀b,S b->∃ws,H' b=some (.lst ws)
 old:∀b,S b->∃ws,H b=some (.lst ws)
 new:∀b,S b->H0 b=none
theorem Turned.kind{H0 H H':Hp}{S:Addr->Prop}(T:Turned H0 H H' S):∀b o,H b=some o->(∀vs,o ≠ .lst vs)->H' b=some o:=λb o e n=>by
 have hs:¬S b:=λz=>by
  obtain⟨ws,w⟩:=T.old b z;rw [w]at e;cases e;exact n ws rfl
 rw [T.else_ b hs];exact e
theorem Turned.same{H0 H H':Hp}{S:Addr->Prop}(T:Turned H0 H H' S)(s:Same H0 H):Same H0 H':=λb o e=>by
 have hs:¬S b:=λz=>by rw [T.new b z]at e;cases e
 rw [T.else_ b hs];exact s b o e
end
end DL
namespace DL
open PySem PySem.Spec L2
section
variable{cA:Kn}{G:Cn}{owN owB owC:List Nat}
theorem Turned.more{H0 H H':Hp}{S S':Addr->Prop}(T:Turned H0 H H' S)(hs:∀b,S b->S' b)(h1:∀b,S' b->∃ws,H b=some (.lst ws))(h2:∀b,S' b->H0 b=none):Turned H0 H H' S':=
 ⟨λb hb=>T.else_ b λz=>hb (hs b z),λb hb=>by
   by_cases z:S b
   · exact T.lst b z
   · rw [T.else_ b z];exact h1 b hb,h1,h2⟩
end
end DL
namespace PySem
open Sem (wp)
open AutoSeq1 (wpAny_loadPart')
section
variable{prog:Program}{w:World}{A:Around}{E:Value->Shared->Prop}{s:Shared}
end
end PySem
namespace L2
open PySem PySem.Spec PyProof.Rows
section
variable{X:Cx}{elts:List Expr}{x1:Nat}{tpos:Pos}
end
end L2
namespace DL
open PySem PySem.Spec L2
section
variable{cA:Kn}{G:Cn}{ow:List Nat}
end
end DL
namespace DL
open PySem PySem.Spec L2
section
variable{cA:Kn}{G:Cn}{ow owB owC:List Nat}
end
end DL
namespace DL
open PySem PySem.Spec L2 PyProof.Rows
section
variable{X:Cx}{cA:Kn}
open Classical in
end
section
variable{prog:Program}{w:World}{A:Around}{E:Value->Shared->Prop}{s:Shared}{l:Addr}{xs:Array (Int×Tok)}
end
section
variable{X:Cx}{K:PySem.W.Frag}{cA:Kn}
end
end DL
namespace L2
open PySem PySem.Spec PyProof.Rows Builtin Builtin.Str
section
variable{X:Cx}
end
end L2
namespace DL
open PySem PySem.Spec L2
variable{cA:Kn}
end DL
namespace DL
open PySem PySem.Spec L2
section
variable{cA:Kn}{G:Cn}{ow owN owB owC:List Nat}
inductive NewD(H0 H:Hp):List D->List V->Prop
 |nil:NewD H0 H [] []
 |cons {xs ds:List D} {vs ws:List V} {b:Addr} (h:H b=some (.lst ws)) (h0:H0 b=none) (hl:ws.length=ds.length) (r:NewD H0 H xs vs):NewD H0 H (.lst ds::xs) (.ref b::vs)
theorem NewD.same{H0 H H':Hp}(s:Same H H'):∀{xs:List D}{vs:List V},NewD H0 H xs vs->NewD H0 H' xs vs
 |_,_,.nil => .nil
 |_,_,.cons h h0 hl r => .cons (s _ _ h) h0 hl (NewD.same s r)
structure Hd(H HE H':Hp)(p0 p1 b0:Addr)(r1:List V):Prop where
 same:Same H H'
 kind:∀b o,HE b=some o->(∀vs,o ≠ .lst vs)->H' b=some o
 l0:∃v ws,H' p0=some (.lst (v::ws))
 l1:∃v ws,H' b0=some (.lst (v::ws))
 lp:H' p1=some (.lst (.ref b0::r1))
end
end DL
namespace L2
open PySem PySem.Spec PyProof.Rows
section
variable{prog:Program}{w:World}{A:Around}{E:Value->Shared->Prop}{s:Shared}{d it:Addr}{es:Array DictEntry}{ep i:Nat}{o:Obj}
theorem ZgK {Q:Value->Shared->Prop} (hs:(d == sysModules)=false) (g:s.heap.get? d=some o) (x:o.ExactDict) (q:o.data = .dict es ep)
 (k:Q (.ref s.heap.objs.size) { s with heap:=s.heap.push { cls := .type "dict_keyiterator",data := .fields #[.ref d,.int 0 0,.int es.size 0,.int ep 0] } }):wpAny (model prog w) A (pyIter (.ref d)) Q E s:=by
 have T:s.TypeIs (.ref d) "dict" := ⟨o,g,x.1⟩
 refine wpAny_pyIter_slot T PySem.F.slot_dict_iter (wpAny_call_entry PySem.F.slot_dict_iter T PySem.F.entry_dict_iter ?_ (PySem.F.args_dict_iter_1 _));unfold Builtin.«dict.__iter__» Builtin.Dict.dictSlotNone;refine wpAny_bind (wpAny_bind (wpAny_notOrdered_dict T (wpAny_pure ?_)));show wpAny _ _ (Builtin.Dict.showsAll d >>= λ_=>_) _ _ s;unfold Builtin.Dict.showsAll;rw [hs];refine wpAny_bind (wpAny_pure (wpAny_bind (wpAny_dictEntries g q (wpAny_bind (wpAny_dictEpoch g q ?_)))))
 exact wpAny_bind (wpAny_newObj_type (wpAny_pure ⟨_,rfl, "dict_keyiterator",_,⟨_,Heap.get?_push_size _ rfl,rfl⟩,PySem.F.slot_dict_keyiterator_next.lookup,by simpa [rawInt]using k⟩))
theorem ZgL {Q:Option Value->Shared->Prop} (t:s.heap.IsKeyIter it d i es.size ep) (g:s.heap.get? d=some o) (q:o.data = .dict es ep) (hlt:i<es.size)
 (k:∀h',h'.IsKeyIter it d (i+1) es.size ep->Heap.SameBut it s.heap h'->Q (some es[i].key) { s with heap:=h' }):wpAny (model prog w) A (pyNext (.ref it)) Q E s:=by
 obtain⟨oi,gi,ci,qi⟩:=id t;have own:Builtin.Dict_items.ownsTuple "dict_keyiterator" = false:=by decide
 unfold pyNext;refine wpAny_bind (wpAny_attempt (wpAny_callSpecial?_slot (name:=Str.ofString "__next__") t.typeIs PySem.F.slot_dict_keyiterator_next (wpAny_call_entry PySem.F.slot_dict_keyiterator_next t.typeIs PySem.F.entry_dict_keyiterator_next ?_ (PySem.F.args_dict_keyiterator_next_1 _))));refine wpAny_bind (wpAny_pure (wpAny_bind (wpAny_bind (wpAny_bind (wpAny_typeNameOfWhole_keyiter t.typeIs (wpAny_pure (wpAny_bind (wpAny_fieldsOf gi qi ?_))))))))
 simp only [own,Bool.false_eq_true,if_false];show wpAny _ _ (if(Value.ref d == Value.none)=true then _ else _) _ _ s;rw [if_neg (λz=>nomatch z)];refine wpAny_bind (wpAny_pure (wpAny_bind (wpAny_dictEntries g q ?_)));rw [if_neg (by simp)];refine wpAny_bind (wpAny_pure (wpAny_bind (wpAny_dictEpoch g q ?_)));rw [if_neg (by simp)];refine wpAny_pure ?_;have h0:¬((i:Int)<0):=by omega
 simp only [h0,if_false,Int.toNat_natCast,Array.getElem?_eq_getElem hlt];refine wpAny_bind (wpAny_bind (wpAny_typeNameOfWhole_keyiter t.typeIs (wpAny_pure (wpAny_bind (wpAny_isOneOf_keyiter t.typeIs ?_)))));show wpAny _ _ (setField (.ref it) 1 (rawInt ((i:Int)+1)) >>= λ_=>_) _ _ s;refine wpAny_bind (wpAny_setField gi qi (by simp) ?_)
 have t':(s.heap.update it (Obj.mapFields (·.setIfInBounds 1 (rawInt ((i:Int)+1))))).IsKeyIter it d (i+1) es.size ep:=
  ⟨_,Heap.get?_update_self _ gi (Obj.isFreed_of_fields (Obj.data_mapFields qi _)),(Obj.cls_mapFields ..).trans ci,by rw [Obj.data_mapFields qi];simp [rawInt]⟩
 refine wpAny_bind (wpAny_holding (wpAny_bind (wpAny_isOneOf_keyiter (s:={ s with heap:=s.heap.update it (Obj.mapFields (·.setIfInBounds 1 (rawInt ((i:Int)+1)))) }) t'.typeIs ?_)));exact wpAny_pure (wpAny_pure ⟨_,rfl,wpAny_pure (k _ t' (Heap.SameBut.update ..))⟩)
theorem Zih {Q:Option Value->Shared->Prop} (hh:A.handled=none) (t:s.heap.IsKeyIter it d i es.size ep) (g:s.heap.get? d=some o) (q:o.data = .dict es ep) (hge:es.size<=i)
 (k:∀h',Heap.ExtBut it s.heap h'->Q none { s with heap:=h' }):wpAny (model prog w) A (pyNext (.ref it)) Q E s:=by
 obtain⟨oi,gi,ci,qi⟩:=id t;have own:Builtin.Dict_items.ownsTuple "dict_keyiterator" = false:=by decide
 unfold pyNext;refine wpAny_bind (wpAny_attempt (wpAny_callSpecial?_slot (name:=Str.ofString "__next__") t.typeIs PySem.F.slot_dict_keyiterator_next (wpAny_call_entry PySem.F.slot_dict_keyiterator_next t.typeIs PySem.F.entry_dict_keyiterator_next ?_ (PySem.F.args_dict_keyiterator_next_1 _))));refine wpAny_bind (wpAny_pure (wpAny_bind (wpAny_bind (wpAny_bind (wpAny_typeNameOfWhole_keyiter t.typeIs (wpAny_pure (wpAny_bind (wpAny_fieldsOf gi qi ?_))))))))
 simp only [own,Bool.false_eq_true,if_false];show wpAny _ _ (if(Value.ref d == Value.none)=true then _ else _) _ _ s;rw [if_neg (λz=>nomatch z)];refine wpAny_bind (wpAny_pure (wpAny_bind (wpAny_dictEntries g q ?_)));rw [if_neg (by simp)];refine wpAny_bind (wpAny_pure (wpAny_bind (wpAny_dictEpoch g q ?_)));rw [if_neg (by simp)];refine wpAny_pure ?_;have h0:¬((i:Int)<0):=by omega
 simp only [h0,if_false,Int.toNat_natCast,Array.getElem?_eq_none hge];refine wpAny_bind (wpAny_bind (wpAny_typeNameOfWhole_keyiter t.typeIs (wpAny_pure ?_)));show wpAny _ _ (setField (.ref it) 0 .none >>= λ_=>_) _ _ s;refine wpAny_bind (wpAny_setField gi qi (by simp) ?_);show wpAny _ _ (newExc (.type "StopIteration") [] >>= λ_=>_) _ _ _;refine wpAny_bind ?_;simp only [newExc,newTuple]
 refine wpAny_bind (wpAny_newObj_type ?_ (by size_fits));refine wpAny_bind (m:=firstArgMember _ _) (wpAny_of_eq (a:=Value.none) (by first|rfl|(simp only [firstArgMember];rfl)) (wpAny_newObj_type ?_ (by size_fits)));simp only [raiseNew];refine wpAny_bind (wpAny_handled ?_);rw [show A.in1.handled=none from hh];refine wpAny_bind (wpAny_pure (wpAny_throw ?_));refine wpAny_bind (wpAny_isInstance (T:="StopIteration") (b:=true) ⟨_,Heap.get?_push_size _ rfl,rfl⟩ isSubtype_stop ?_)
 exact wpAny_pure (k _ (((Heap.SameBut.update ..).extBut.push _).push _))
end
theorem HOk.swap{P:Program}{w:World}{H:Hp}{h:Heap}{d:Addr}{u u':HO}(ok:HOk P w H h)(e:H d=some u)(n1:∀xs,u ≠ .tup xs)(n2:∀y,u ≠ .own y)(n4:∀ob q,u ≠ .frz ob (.cod q))(new:ObjOk P w (upd H d u') h d u'):HOk P w (upd H d u') h:=λb v q=>by
 by_cases hb:b=d
 · subst hb;rw [Zm]at q;cases q;exact new
 · rw [Zc hb]at q
   refine(ok b v q).stay (λ_ _ _ r=>r) (λc r => ?_) (λc xs r => ?_) λc ob y r => ?_
   · rw [Zc λz=>by subst z;rw [e]at r;exact n2 _ (Option.some.inj r)];exact r
   · rw [Zc λz=>by subst z;rw [e]at r;exact n1 _ (Option.some.inj r)];exact r
   · rw [Zc λz=>by subst z;rw [e]at r;exact n4 _ _ (Option.some.inj r)];exact r
theorem Inv.swap {X:Cx} {pins:List (Addr×Obj)} {σ:St} {H:Hp} {s:Shared} {d:Addr} {u u':HO} (I:Inv X pins σ H s) (e:H d=some u) (n1:∀xs,u ≠ .tup xs) (n2:∀y,u ≠ .own y) (n3:∀ps,u ≠ .tbl ps) (n4:∀ob q,u ≠ .frz ob (.cod q))
 (nf:∀o v,X.H₀ d≠some (.frz o v)) (new:ObjOk X.prog X.w (upd H d u') s.heap d u'):Inv X pins σ (upd H d u') s:=by
 have nd:∀b,H b=none->upd H d u' b=none:=λb z=>by
  rw [Zc λy=>by subst y;rw [e]at z;cases z];exact z
 refine⟨I.ok,I.os,I.bare,⟨I.base.keep,I.base.slot,λb o q n hx=>nd b (I.base.free b o q n hx),I.base.there,λb xs q => ?_,λb o v q => ?_,λb ps q => ?_⟩,I.loc,I.cell,nd _ I.free,λx c q=>nd c (I.freeC x c q),λp hp => ?_,I.hok.swap e n1 n2 n4 new,I.len,λq hq=>by rw [Zc λy=>by have:=I.fzs q hq;rw [y,e]at this;exact n4 _ _ (Option.some.inj this)];exact I.fzs q hq⟩
 · have:=I.base.tups b xs q
   rw [Zc λy=>by subst y;rw [e]at this;exact n1 _ (Option.some.inj this)];exact this
 · rw [Zc λy=>by subst y;exact nf _ _ q];exact I.base.frzs b o v q
 · obtain⟨more,this⟩:=I.base.tbls b ps q
   exact⟨more,by rw [Zc λy=>by subst y;rw [e]at this;exact n3 _ (Option.some.inj this)];exact this⟩
 · obtain⟨a1,a2,a3⟩:=I.pin p hp
   exact⟨a1,nd _ a2,a3⟩
def Itk(d:Addr)(o:Obj)(kvs:List (List Key×V)):It:=⟨λi H=>H d=some (.frz o (.dT kvs))/\i<kvs.length,λi H v H'=>H'=H/\∃ka k x,kvs[i]? = some (k,x)/\v = .ref ka/\H ka=some (.tup (k.map kV)),λi H=>H d=some (.frz o (.dT kvs))/\kvs.length<=i⟩
theorem Zfy{P:Program}{w:World}{H:Hp}{h:Heap}{d:Addr}{o:Obj}{kvs:List (List Key×V)}(ok:HOk P w H h)(e:H d=some (.frz o (.dT kvs))):h.get? d=some o/\∃es ep,o.ExactDict/\(d == sysModules)=false/\o.data = .dict es ep/\es.size=kvs.length /\
 ∀i(hi:i<es.size),∃ka k x,kvs[i]? = some (k,x)/\es[i].key = .ref ka/\H ka=some (.tup (k.map kV)):=by
 obtain⟨g,z,y,xs,r,ob,es,ep,g2,x,q,he,_⟩:=(show ObjOk P w H h d (.frz o (.dT kvs))from ok d _ e)
 rw [g]at g2;cases g2;have hl:xs.length=kvs.length:=(Paired.length r).symm;have hz:es.size=kvs.length:=by rw [<-hl,<-Array.length_toList,he,List.length_map]
 refine⟨g,es,ep,x,y,q,hz,λi hi => ?_⟩;have hx:i<xs.length:=by omega
 have hk:i<kvs.length:=by omega
 have key:∀{l:List (List Key×V)}{m:List (List Key×Addr×Value)}{i:Nat},Paired (λ(p:List Key×V) (q:List Key×Addr×Value)=>p.1=q.1/\H q.2.1=some (.tup (p.1.map kV))/\RelV p.2 q.2.2) l m->(h1:i<l.length)->(h2:i<m.length)->l[i].1=m[i].1/\H m[i].2.1=some (.tup (l[i].1.map kV)):=λ{l m i} r=>by
  induction r generalizing i with
  |nil=>intro h1;exact absurd h1 (Nat.not_lt_zero _)
  |cons a _ ih=>
   intro h1 h2;cases i with
   |zero=>exact⟨a.1,a.2.1⟩
   |succ i=>exact ih (by simpa using h1) (by simpa using h2)
 refine⟨xs[i].2.1,kvs[i].1,kvs[i].2,List.getElem?_eq_getElem hk,?_,(key r hk hx).2⟩;have:es.toList[i]'(by rw [Array.length_toList];exact hi)=entryOfKey (tupleKind (Yc P w)) xs[i]:=by simp [he]
 rw [<-Array.getElem_toList,this];rfl
theorem Zea{P:Program}{w:World}{K:PySem.W.Frag}{tg:Expr}(it d:Addr)(o:Obj)(es:Array DictEntry)(ep:Nat)(kvs:List (List Key×V))(hq:o.data = .dict es ep)(hz:es.size=kvs.length):Turn P w K tg (Itk d o kvs) [it] it (λi h=>h.IsKeyIter it d i es.size ep) where
 mem:=by simp
 obj:=λi h st b hb=>by
  have e:b=it:=by simpa using hb
  subst e;obtain⟨o,e,c,q⟩:=st;exact⟨o,e,λv z=>by rw [q]at z;cases z⟩
 keep:=λi h h' st k=>by
  obtain⟨o,e,r⟩:=st;exact⟨o,k it (by simp) o e,r⟩
 item:=by
  intro X hP hw hK hc i pins s σ H E I hf st hg;subst hP hw hK;obtain⟨f0,f1,f2,f3,f4,f5⟩:=hf it (by simp);obtain⟨hd,hi⟩:H d=some (.frz o (.dT kvs))/\i<kvs.length:=hg;obtain⟨g,es',ep',x,_,q,_,all⟩:=Zfy I.hok hd;rw [hq]at q;cases q;have hi':i<es.size:=by omega
  obtain⟨ka,k,y,e1,e2,e3⟩:=all i hi';refine ZgL st g hq hi' λh' st' sb => ?_
  rw [e2];have I1:Inv X pins σ H { s with heap:=h' }:=I.turned (t':=s.toks) (λb o hb e=>(sb.2 b hb).trans e) f0 f1 f3 f4 f5;exact⟨_,rfl,letGo_keyiter st' ⟨.ref ka,H,I1,rfl,⟨rfl,ka,k,y,e1,rfl,e3⟩,st',λb hb=>(hf b hb).1⟩⟩
 done:=by
  intro X hP hw hK hc i pins s σ H E I hf st hg;subst hP hw hK;obtain⟨f0,f1,f2,f3,f4,f5⟩:=hf it (by simp);obtain⟨hd,hi⟩:H d=some (.frz o (.dT kvs))/\kvs.length<=i:=hg;obtain⟨g,es',ep',x,_,q,_,all⟩:=Zfy I.hok hd;exact Zih (I.ok.hd hc) st g hq (by omega) λh' eb=>⟨rfl,I.turned (t':=s.toks) (λb o hb e=>eb b o hb e) f0 f1 f3 f4 f5⟩
 self:=λ_ i _ _ _ st h=>wpAny_pyIter_keyiter st h
def Zf2(NF:Addr->Prop)(tl:TE):TI:=λσ H R=>tl σ H λx H1=>∃d kvs,x = .ref d/\H1 d=some (.dT kvs)/\∀o,NF d->R (Itk d o kvs) (upd H1 d (.frz o (.dT kvs)))
section
variable{X:Cx}{tg:Expr}
theorem Zdo{l:Expr}{tl:TE}{NF:Addr->Prop}(hl:PE X l tl)(hN:∀d,(∀o v,X.H₀ d≠some (.frz o v))->NF d):PI X tg l (Zf2 NF tl):=by
 intro pins s σ H R I h;refine thn (hl pins s σ H _ I h) λv s1 ⟨x,H1,I1,r1,q1⟩ => ?_
 obtain⟨d,kvs,e,hd,q⟩:=q1;subst e;cases r1
 have nf:∀o v,X.H₀ d≠some (.frz o v):=λo v z=>by
  have:=I1.base.frzs d o v z;rw [hd]at this;cases this
 obtain⟨o,es,ep,g,x,hq,hm,hz⟩:∃o es ep,s1.heap.get? d=some o/\o.ExactDict/\o.data = .dict es ep/\(d == sysModules)=false/\es.size=kvs.length:=by
  obtain⟨z,y,xs,r,ob,es,ep,g2,x,q,he,_⟩:=(show ObjOk X.prog X.w H1 s1.heap d (.dT kvs)from I1.hok d _ hd)
  exact⟨ob,es,ep,g2,x,q,y,by rw [<-Array.length_toList,he,List.length_map];exact(Paired.length r).symm⟩
 have I2:Inv X pins σ (upd H1 d (.frz o (.dT kvs))) s1:=I1.swap hd (λ_ z=>by cases z) (λ_ z=>by cases z) (λ_ z=>by cases z) (λ_ _ z=>by cases z) nf ⟨g,(I1.hok d _ hd).stay (λ_ _ _ r=>r) (λc r=>by rw [Zc λz=>by subst z;rw [hd]at r;cases r];exact r) (λc xs r=>by rw [Zc λz=>by subst z;rw [hd]at r;cases r];exact r) λc ob y r=>by rw [Zc λz=>by subst z;rw [hd]at r;cases r];exact r⟩
 refine ZgK hm g x hq ?_;refine⟨s1.heap.objs.size,[s1.heap.objs.size],_,_,_,rfl,I2.kept (t':=s1.toks) λb o e=>Heap.get?_push_of_some _ e,Zea _ d o es ep kvs hq hz,⟨_,Heap.get?_push_size _ rfl,rfl,rfl⟩,λb hb => ?_,q o (hN d nf)⟩;have e:b=s1.heap.objs.size:=by simpa using hb
 subst e;exact I2.fpOk (Nat.le_refl _) (I2.hok.fresh (Nat.le_refl _))
def ZhE(tl:TE)(g:TG)(tb:TS):TS:=λD σ H=>∀NF:Addr->Prop,XI (Zf2 NF tl) g tb { D with nx:=λσ' H'=>∃d o kvs,H' d=some (.frz o (.dT kvs))/\NF d/\D.nx σ' (upd H' d (.dT kvs)) } σ H
theorem ZgM {iter:Expr} {body:List Stmt} {tl:TE} {g:TG} {tb:TS} {pos:Pos} (hp:PassesOwn (model X.prog X.w) X.A X.env X.xe) (hc:X.calm=true) (hl:PE X iter tl) (hg:PG X tg g) (hb:PSs X body tb)
 (hs:∀x,foldedSetIterable iter X.env x=pure x:=by intro _;rfl):PS X (.For tg iter body [] pos) (ZhE tl g tb):=by
 intro pins s σ H D I h;have h1:=Ye (pos:=pos) hp hc (Zdo (tg:=tg) (NF:=λd=>∀o v,X.H₀ d≠some (.frz o v)) hl λ_ z=>z) hg hb hs pins s σ H _ I (h λd=>∀o v,X.H₀ d≠some (.frz o v));refine thn h1 λf s' q => ?_
 cases f with
 |next=>
  obtain⟨σ',H',I',d,o,kvs,hd,nf,q7⟩:=q;exact⟨σ',_,I'.swap hd (λ_ z=>by cases z) (λ_ z=>by cases z) (λ_ z=>by cases z) (λ_ _ z=>by cases z) nf ((I'.hok d _ hd).2.stay (λ_ _ _ r=>r) (λc r=>by rw [Zc λz=>by subst z;rw [hd]at r;cases r];exact r) (λc xs r=>by rw [Zc λz=>by subst z;rw [hd]at r;cases r];exact r) λc ob y r=>by rw [Zc λz=>by subst z;rw [hd]at r;cases r];exact r),q7⟩
 |_=>exact q
end
end L2
namespace DL
open PySem PySem.Spec L2
def Ul:Key->D
 | .inl i => .int i
 | .inr x => .str x.cps.toList
theorem ZeQ(k:Key):val (Ul k)=kV k:=by
 cases k with
 |inl i=>rfl
 |inr x=>rfl
theorem ZgN(k:Key):Zj (Ul k)=true:=by cases k<;>rfl
theorem Zeb(ks:List Key):(ks.map Ul).map val=ks.map kV:=by
 rw [List.map_map];exact List.map_congr_left λk _=>ZeQ k
theorem ZeR{cA:Kn}{av:Addr->Prop}{H:Hp}(ks:List Key):RepL cA av H (ks.map Ul) (ks.map kV):=by
 rw [<-Zeb];exact .of_vals (by rw [List.all_map];exact List.all_eq_true.mpr λk _=>ZgN k)
section
variable{G:Cn}{ow ow1 owB owC:List Nat}{i:Nat}{H0 H H':Hp}{av:Addr->Prop}{A A':Nat->Option Addr}{σ σ':L2.St}{δ δ':Env}{a:Addr}
def kD(k:List Key):D := .tup (k.map Ul)
theorem ZaK:Zki G ow tDNewT (eC (.dtt [] [])):=λH0 av A σ H δ E d e Q k=>by
 intro p hp;have:(some (D.dtt [] []):Option D)=some d:=e;exact k p [] [] [] H (Same.refl H) hp rfl .nil (Option.some.inj this).symm
end
end DL
namespace DL
open PySem PySem.Spec L2
section
variable{G:Cn}{ow owB owC ow1:List Nat}
end
end DL
namespace L2
open PySem PySem.Spec PyProof.Rows
structure CloScope(N ps fr:List Str)(sc:Scope):Prop where
 kind:sc.kind = .function
 co:sc.isCoroutine=false
 gen:sc.isGenerator=false
 nd:N.Nodup
 pre:N.take (ps++fr).length=ps++fr
 par:∀x∈ps,sc.names.lookup x=some .local
 frk:∀x∈fr,sc.names.lookup x=some .free
 all:∀y∈sc.names,y.2 ≠ .cell/\(y.2 = .free->y.1∈fr)
structure Caps(h:Heap)(cl:List (Str×Addr))(fr:List Str)(vc:List V):Prop where
 inj:∀x y c,cl.lookup x=some c->cl.lookup y=some c->x=y
 cell:∀x c,cl.lookup x=some c->∃v,h.IsCell c v
 get:∀(i:Nat)(x:Str),fr[i]? = some x->∃c u v,cl.lookup x=some c/\vc[i]? = some v/\RelV v u/\h.IsCell c (some u)
 len:vc.length=fr.length
def cxC(P:Program)(w:World)(K:PySem.W.Frag)(mg:Str->Option Value)(base:Heap)(N:List Str)(qual:Str)(scope:Scope)(f:Addr)(cd:Value)(cl:List (Str×Addr))(A:Around)(outer:List Env)(s:Shared)(H:Hp):Cx where
 prog:=P
 w:=w
 K:=K
 mg:=mg
 base:=base
 A:=A.deeper (PySem.W.envX qual scope s.heap.objs.size f cd cl)
 N:=N
 s₀:=s
 H₀:=H
 env:=PySem.W.envX qual scope s.heap.objs.size f cd cl
 outer:=outer
 stack:=PySem.W.envX qual scope s.heap.objs.size f cd cl::outer
 ex:=[]
 calm:=true
 fn:=λ_=>false
 pn:=[]
 xe:=λ_ _=>False
theorem ZaE{x:Str}{v:Value}:∀{l:List (Str×Value)},(l.map (·.1)).Nodup->(x,v)∈l->l.lookup x=some v
 | [],_,h=>by cases h
 |(y,w)::l,nd,h=>by
  rw [List.map_cons,List.nodup_cons]at nd;rcases List.mem_cons.mp h with e|h
  · cases e
    simp [List.lookup_cons]
  · have hne:x≠y:=λe=>nd.1 (List.mem_map.mpr ⟨(x,v),h,e⟩)
    have hb:(x == y)=false:=beq_eq_false_iff_ne.mpr hne;rw [List.lookup_cons,hb];exact ZaE nd.2 h
theorem Zdp:∀(ps:List Str)(us:List Value),((ps.zip us).map (·.1)).Sublist ps
 | [],_ => .slnil
 |_::_,[]=>List.nil_sublist _
 |x::ps,u::us=>(Zdp ps us).cons_cons x
theorem Zii{ps:List Str}{us:List Value}{i:Nat}{x:Str}{u:Value}(nd:ps.Nodup)(h1:ps[i]? = some x)(h2:us[i]? = some u):(ps.zip us).reverse.lookup x=some u:=by
 refine ZaE ?_ (List.mem_reverse.mpr (List.mem_of_getElem? (i:=i) ?_))
 · rw [List.map_reverse]
   refine List.pairwise_reverse.mpr (List.Pairwise.imp Ne.symm ?_);exact nd.sublist (Zdp ps us)
 · rw [List.getElem?_zip_eq_some]
   exact⟨h1,h2⟩
theorem ZgO {P:Program} {w:World} {K:PySem.W.Frag} {mg:Str->Option Value} {base:Heap} {N ps fr:List Str} {qual:Str} {scope:Scope} {f:Addr} {cd:Value} {cl:List (Str×Addr)} {A:Around} {outer:List Env} {s:Shared} {H:Hp} {us:List Value} {vs vc:List V} {h₁:Heap} {tk:Nat}
 (S:CloScope N ps fr scope) (C:Caps base cl fr vc) (hd:A.handled=none) (e0:Env0 P w K mg base A outer s H) (hl:vs.length=ps.length) (r:Vals vs us)
 (hns:h₁.Ns s.heap.objs.size (λx=>(ps.zip us).reverse.lookup x)) (hk:∀b o,s.heap.get? b=some o->h₁.get? b=some o) :
 Inv (cxC P w K mg base N qual scope f cd cl A outer s H) [] (start N (vs++vc)) H { s with heap:=h₁,toks:=tk }:=by
 have noA:∀b:Addr,b∉(cxC P w K mg base N qual scope f cd cl A outer s H).ex:=λb z=>absurd (show b∈([]:List Addr)from z) (by simp)
 have hpl:(ps++fr).length<=N.length:=by have:=congrArg List.length S.pre;rw [List.length_take]at this;omega
 have hvl:(vs++vc).length=(ps++fr).length:=by rw [List.length_append,List.length_append,hl,C.len]
 have cb:∀x c v,cl.lookup x=some c->base.IsCell c v->s.heap.IsCell c v/\H c=none:=λx c v e ⟨o,ho,hd⟩=>⟨⟨o,(e0.bs c o ho).1,hd⟩,(e0.bs c o ho).2⟩
 have ck:∀c v,s.heap.IsCell c v->h₁.IsCell c v:=λc v ⟨o,ho,hd⟩=>⟨o,hk _ _ ho,hd⟩
 refine⟨⟨e0.mod,S.kind,rfl,rfl,Nat.le_refl _,C.inj,λy hy => ?_,λy c h=>(by cases(show false=true from h)),λ_=>hd,Around.frames_deeper e0.frames,.inr ⟨rfl,rfl⟩,λb z=>absurd z (noA b),e0.bs,e0.bsz,λb _ _=>noA b,λb z=>absurd z (noA b),e0.funs,e0.frf,e0.tb⟩,
  rfl,e0.bare,Un.kept hk,⟨_,hns,λi y v h1 h2 h3 => ?_⟩,λy c h => ?_,e0.hok.fresh (Nat.le_refl _),λy c h => ?_,λp hp=>absurd (show p∈([]:List (Addr×Obj))from hp) (by simp),e0.hok.kept hk,?_,λq hq=>absurd (show q∈([]:List (Addr×Obj×Str))from hq) (by simp)⟩
 · have hy:scope.names.lookup y=some .cell\/scope.names.lookup y=some .free:=hy
   rcases hy with hy|hy
   · exact absurd rfl (S.all _ (PySem.mem_of_lookup hy)).1
   · obtain⟨i,hi⟩:=List.mem_iff_getElem?.mp ((S.all _ (PySem.mem_of_lookup hy)).2 rfl)
     obtain⟨c,_,_,e,_⟩:=C.get i y hi;exact⟨c,e⟩
 · have h1:N[i]? = some y:=h1
   have hi:i<(vs++vc).length:=by
    unfold start at h2
    by_cases hi:i<(vs++vc).length
    · exact hi
    · rw [List.getElem?_append_right (by simpa using hi)]at h2
      rw [List.getElem?_replicate]at h2
      split at h2<;>cases h2
   have ha:(vs++vc)[i]? = some v:=by
    unfold start at h2;rw [List.getElem?_append_left (by simpa using hi),List.getElem?_map]at h2;cases e:(vs++vc)[i]? with
    |none=>rw [e]at h2;cases h2
    |some a=>rw [e]at h2;cases h2;rfl
   have hp:(ps++fr)[i]? = some y:=by
    rw [<-S.pre,List.getElem?_take_of_lt (by omega)];exact h1
   have ndP:(ps++fr).Nodup:=by rw [<-S.pre];exact S.nd.sublist (List.take_sublist _ _)
   by_cases hv:i<vs.length
   · rw [List.getElem?_append_left hv]at ha
     rw [List.getElem?_append_left (by omega)]at hp;obtain⟨u,hu,rv⟩:=r.get ha;exact⟨u,rv,.inl ⟨S.par y (List.mem_of_getElem? hp),Zii (ndP.sublist (List.sublist_append_left _ _)) hp hu⟩⟩
   · rw [List.getElem?_append_right (by omega)]at ha
     rw [List.getElem?_append_right (by omega),<-hl]at hp;obtain⟨c,u,v',e1,e2,e3,e4⟩:=C.get _ y hp;rw [ha]at e2;cases e2;exact⟨u,e3,.inr ⟨.inr (S.frk y (List.mem_of_getElem? hp)),c,e1,ck _ _ (cb y c _ e1 e4).1⟩⟩
 · obtain⟨v,hv⟩:=C.cell y c h
   exact⟨v,ck _ _ (cb y c v h hv).1⟩
 · obtain⟨v,hv⟩:=C.cell y c h
   exact(cb y c v h hv).2
 · unfold start
   show _=N.length;rw [List.length_append,List.length_map,List.length_replicate];omega
theorem Zij {P:Program} {w:World} {K:PySem.W.Frag} {mg:Str->Option Value} {base:Heap} {k:Nat} {f:Addr} {fo:Obj} {name qual:Str} {params:Arguments} {body:List Stmt} {scope:Scope} {cl:List (Str×Addr)} {dV kV doc pm ct:Value} {an:Option Addr} {c:Addr} {N ps fr:List Str} {vc:List V} {sp:Sp}
 (hf:base.get? f=some fo) (hd:fo.data = .func (PySem.W.fnX name qual params body scope cl dV kV doc pm an (.ref c) ct)) (S:CloScope N ps fr scope) (C:Caps base cl fr vc)
 (len:∀vs H Q E,sp vs H Q E->vs.length=ps.length) (hcd:∀vs H Q E,sp vs H Q E->∃oc,H c=some (.frz oc (.cod qual)))
 (hbody:∀(A:Around)(outer:List Env)(s:Shared)(H:Hp)(vs:List V)(Q:VK)(E:XK),Room k (A.deeper (PySem.W.envX qual scope s.heap.objs.size f (.ref c) cl))->sp vs H Q E ->
   ∃t,PSs (cxC P w K mg base N qual scope f (.ref c) cl A outer s H) body t/\t { nx:=λ_ H'=>Q .non H',rt:=Q } (start N (vs++vc)) H) :
 FnOk P w K mg base CX0 (k+1) f (PySem.W.fnX name qual params body scope cl dV kV doc pm an (.ref c) ct) ps sp:=by
 refine⟨len,λA outer s H args us vs Q E hr e0 hb r hsp => ?_⟩;have hl:=len _ _ _ _ hsp;have lim:s.heap.NoLimit:=e0.mod.nolimit.keeps λb o e=>(e0.bs b o e).1
 obtain⟨oc,hoc⟩:=hcd _ _ _ _ hsp;have hc:s.heap.CodeRec (.ref c) qual:=(e0.hok c _ hoc).2;refine codeAny_call_def (fd:=PySem.W.fnX name qual params body scope cl dV kV doc pm an (.ref c) ct) (body:=body) (binds:=ps.zip us) hr.depth (e0.bs f fo hf).1 hd lim hc rfl hb (λx hx=>(S.all x hx).1) (λx hx=>S.par x.1 (List.of_mem_zip hx).1) (λh₁ hns hk => ?_) S.co S.gen S.kind;obtain⟨t,ht,hq⟩:=hbody A outer s H vs Q E (hr.deeper _) hsp
 have I:Inv (cxC P w K mg base N qual scope f (.ref c) cl A outer s H) [] (start N (vs++vc)) H { s with heap:=h₁,toks:=s.toks+(ps.zip us).length }:=ZgO S C hr.hd e0 hl r hns hk;refine wpAny_mono (ht [] _ (start N (vs++vc)) H _ I hq) (λfl s' hs => ?_) λe s' hs=>False.elim hs
 have fin:∀{σ':St}{H':Hp}{v:V}{u:Value},Inv (cxC P w K mg base N qual scope f (.ref c) cl A outer s H) [] σ' H' s'->RelV v u->Q v H'->CE outer P w H s Q u s':=
  λ{σ' H' v u} J rv q=>⟨v,H',J.os,J.bare,J.base,J.hok,rv,q⟩
 cases fl with
 |ret u=>
  obtain⟨v,σ',H',J,rv,q⟩:=hs;exact fin J rv q
 |next=>
  obtain⟨σ',H',J,q⟩:=hs;exact fin (v:=V.non) (u:=Value.none) J rfl q
 |brk=>
  obtain⟨_,_,_,q⟩:=hs;exact False.elim q
 |cont=>
  obtain⟨_,_,_,q⟩:=hs;exact False.elim q
def Zfz(i:Nat)(p c:Addr)(qual:Str)(sp:Sp)(t:TA):TE:=λσ H Q=>σ[i]? = some (some (.ref p))/\t σ H λvs H1=>(∃oc,H1 c=some (.frz oc (.cod qual)))->sp vs H1 Q E0
section
variable{X:Cx}{pins:List (Addr×Obj)}{σ:St}{H:Hp}{s:Shared}
theorem ZeS {i k:Nat} {x qual:Str} {p c:Addr} {oc:Obj} {fo:Obj} {fd fd0:FuncData} {ps:List Str} {sp:Sp} {pn pos:Pos} {e:Expr} {es:List Expr} {t:TA} (F:FnOk X.prog X.w X.K X.mg X.base CX0 k p fd ps sp) (hr:Room k X.A) (hfo:X.base.get? p=some fo) (hdat:fo.data = .func fd0) (hc0:X.H₀ c=some (.frz oc (.cod qual))) (hb:Binds X.K fd ps [])
 (hN:X.N[i]? = some x) (hv:Vis X.env.scope x) (ha:PA X (e::es) t)
 (hd:(x == ("__debug__" : Str))=false:=by decide) (hcd:(x == ("__classdict__" : Str))=false:=by decide)
 (he:starEach (e::es) X.env=(false,eval e X.env)::starEach es X.env:=by rfl) (hpl:(backTo pos (starEach es X.env)).any (·.1)=false:=by rfl) :
 PE X (.Call (.Name x pn) (e::es) [] pos) (Zfz i p c qual sp t):=by
 intro pins s σ H Q I h;obtain⟨h0,h⟩:=h
 have fa:∀{σ:St}{H:Hp}{s:Shared},Inv X pins σ H s->PySem.W.FnAt p s.heap:=λJ=>by
  obtain⟨a,b,c,d⟩:=fo;dsimp only at hdat;subst hdat;exact⟨a,b,_,d,J.bk _ _ hfo⟩
 refine wpAny_Call_Name_kw (thn (Zfh hN hv hd hcd pins s σ H (λv H'=>v = .ref p/\H'=H) I ⟨_,h0,rfl,rfl⟩) λu s1 ⟨v,H1,I1,rv,e1,e2⟩ => ?_);subst e1 e2;cases rv;refine PySem.W.callWith_F (fa I1) (thn (ha pos pins s1 σ _ _ I1 h) λus s2 ⟨vs,H2,I2,r,q⟩=>⟨fa I2,?_⟩) he hpl;exact JJ (dvs:=[]) F hr hb .nil Z9 I2 r (by rw [List.append_nil];exact q ⟨oc,I2.base.frzs _ _ _ hc0⟩)
def wide(h:Heap)(H:Hp)(fs:List Addr):Heap:=PySem.W.hideAll h (trk h H++fs)
theorem mem_trk{h:Heap}{H:Hp}{b:Addr}:b∈trk h H ↔ b<h.objs.size/\(H b).isSome=true:=by
 unfold trk;rw [List.mem_filter,List.mem_range]
theorem ZaL{h:Heap}{H:Hp}{fs:List Addr}{b:Addr}{o:Obj}(e:h.get? b=some o)(n:H b=none)(f:b∉fs):(wide h H fs).get? b=some o:=by
 refine PySem.W.hideAll_get _ e λz => ?_
 rcases List.mem_append.mp z with z|z
 · have:=(mem_trk.mp z).2
   rw [n]at this;cases this
 · exact f z
theorem Zbt{h:Heap}{H:Hp}{fs:List Addr}{b:Addr}{o:Obj}(e:(wide h H fs).get? b=some o):h.get? b=some o/\H b=none/\b∉fs:=by
 have e1:=PySem.W.of_hideAll _ e
 have hn:b∉trk h H++fs:=λz=>by
  have:=PySem.W.hideAll_none (h:=h) _ z;unfold wide at e;rw [e]at this;cases this
 refine⟨e1,?_,λz=>hn (List.mem_append_right _ z)⟩;cases q:H b with
 |none=>rfl
 |some u=>exact absurd (List.mem_append_left _ (mem_trk.mpr ⟨Heap.lt_size e1,by rw [q];rfl⟩)) hn
theorem Inv.base_wide(I:Inv X pins σ H s):∀b o,X.base.get? b=some o->(wide s.heap H (frs X.stack)).get? b=some o:=λb o e=>by
 obtain⟨h1,h2⟩:=I.bs b o e;refine ZaL h1 h2 λz => ?_
 rcases List.mem_cons.mp (I.stkSub b z)with q|q
 · have:=Heap.lt_size e
   rw [q]at this;exact absurd (Nat.lt_of_lt_of_le this (Nat.le_trans I.ok.bsz I.ok.above)) (Nat.lt_irrefl _)
 · exact I.ok.nofr e q
theorem Zbc{h base b2:Heap}:∀{l:List Env},(∀L∈frs l,b2.get? L=none)->h.FunFrames base l->h.FunFrames b2 l
 | [],_,_=>trivial
 |env::r,hn,hl=>by
  obtain⟨hk,⟨L,o,hf,_,ho,hd⟩,hr⟩:=hl;have hL:L∈frs (env::r):=by unfold frs;rw [List.filterMap_cons,hf];exact List.mem_cons_self
  refine⟨hk,⟨L,o,hf,hn L hL,ho,hd⟩,Zbc (λb hb=>hn b ?_) hr⟩;unfold frs at hb ⊢;rw [List.filterMap_cons,hf];exact List.mem_cons_of_mem _ hb
theorem Mod.keeps{K:PySem.W.Frag}{mg:Str->Option Value}{b1 b2:Heap}(M:Mod K mg b1)(k:∀b o,b1.get? b=some o->b2.get? b=some o):Mod K mg b2:=
 ⟨M.kin.keeps k,M.glob.keeps k,let⟨mb,h1,h2⟩:=M.blt;⟨mb,h1.keeps k,h2⟩,M.nolimit.keeps k⟩
theorem Inv.env0W(I:Inv X pins σ H s):Env0 X.prog X.w X.K X.mg (wide s.heap H (frs X.stack)) X.A X.stack s H:=
 ⟨I.ok.frames,I.ok.mod.keeps I.base_wide,λb o e=>⟨(Zbt e).1,(Zbt e).2.1⟩,Nat.le_of_eq (PySem.W.hideAll_size _ _),Zbc (λL hL=>by
   cases q:(wide s.heap H (frs X.stack)).get? L with
   |none=>rfl
   |some o=>exact absurd hL (Zbt q).2.2) I.stack,I.stkFree,I.hok,I.bare,I.tabs⟩
def ZfA(sp:List V->Sp)(c:Addr)(oc:Obj)(qual:Str)(js:List Nat)(t:TA):TE:=λσ H Q=>∃vc:List V,vc.length=js.length/\(∀i j:Nat,js[i]? = some j->∃v,σ[j]? = some (some v)/\vc[i]? = some v)/\t σ H λvs H1=>H1 c=some (.frz oc (.cod qual))->sp vc vs H1 Q E0
theorem ZeT {k:Nat} {x qual:Str} {f p c:Addr} {fo oc:Obj} {fd:FuncData} {ps fr:List Str} {cl:List (Str×Addr)} {sp:List V->Sp} {js:List Nat} {pn pos:Pos} {e:Expr} {es:List Expr} {t:TA}
 (F:∀(base:Heap)(vc:List V),base.get? p=some fo->Caps base cl fr vc->FnOk X.prog X.w X.K X.mg base CX0 k f fd ps (sp vc)) (hr:Room k X.A) (hp:(p,fo)∈X.pn) (hz:(c,oc,qual)∈X.fz) (hfn:∀y,X.fn y=true)
 (hci:∀x y c,cl.lookup x=some c->cl.lookup y=some c->x=y) (hce:∀q∈cl,X.env.cells.lookup q.1=some q.2)
 (hjs:∀(i:Nat)(y:Str),fr[i]? = some y->∃j c,js[i]? = some j/\X.N[j]? = some y/\(X.env.kindOf y=some .cell\/X.env.kindOf y=some .free)/\Vis X.env.scope y/\cl.lookup y=some c) (hjl:js.length=fr.length)
 (hg:Gl X x) (hm:X.mg x=some (.ref f)) (hk:keepIn X.K (.ref f)=true) (hb:Binds X.K fd ps []) (ha:PA X (e::es) t) (hdb:(x == ("__debug__" : Str))=false:=by decide)
 (he:starEach (e::es) X.env=(false,eval e X.env)::starEach es X.env:=by rfl) (hpl:(backTo pos (starEach es X.env)).any (·.1)=false:=by rfl) :
 PE X (.Call (.Name x pn) (e::es) [] pos) (ZfA sp c oc qual js t):=by
 intro pins s σ H Q I h;obtain⟨vc,hvl,hvs,h⟩:=h;refine wpAny_Call_Name_kw (Ju I hg hm ?_ hdb);refine PySem.W.callWith_K (h₀:=X.base) I.ok.mod.kin hk (thn (ha pos pins s σ H _ I h) λus s1 ⟨vs,H1,I1,r,q⟩=>⟨I1.kIn,?_⟩) he hpl;have hpin:=I1.pin (p,fo) (List.mem_append_left _ hp)
 have nfs:p∉frs X.stack:=λz=>by
  rcases List.mem_cons.mp (I1.stkSub p z)with q|q
  · exact hpin.2.2.1 q
  · exact hpin.2.2.2.1 q
 have cellW:∀y c v,X.env.cells.lookup y=some c->s1.heap.IsCell c v->(wide s1.heap H1 (frs X.stack)).IsCell c v:=λy c v hc ⟨o,ho,hd⟩=>by
  refine⟨o,ZaL ho (I1.freeC y c hc) λz => ?_,hd⟩;rcases List.mem_cons.mp (I1.stkSub c z)with q|q
  · exact I1.cne y c hc q
  · obtain⟨_,o',ho',_⟩:=I1.ok.funs.mem q
    exact absurd (Nat.lt_of_lt_of_le (Heap.lt_size ho') (I1.ok.cab y c (hfn y) hc)) (Nat.lt_irrefl _)
 have C:Caps (wide s1.heap H1 (frs X.stack)) cl fr vc:=by
  refine⟨hci,λy c hc => ?_,λi y hy => ?_,hvl.trans hjl⟩
  · have hc2:=hce (y,c) (PySem.mem_of_lookup hc)
    obtain⟨v,hv⟩:=I1.cell y c hc2;exact⟨v,cellW y c v hc2 hv⟩
  · obtain⟨j,c,e1,e2,e3,e4,e5⟩:=hjs i y hy
    obtain⟨v,h1,h2⟩:=hvs i j e1;have hc2:=hce (y,c) (PySem.mem_of_lookup e5);obtain⟨m,_,hl⟩:=I1.loc;obtain⟨u,rv,lk⟩:=hl j y v e2 h1 e4;rcases lk with⟨k1,_⟩|⟨_,c',hc',hcell⟩
    · rcases e3 with z|z<;>(rw [k1]at z;cases z)
    · have hc2':X.env.cells.lookup y=some c:=hc2
      rw [hc']at hc2';cases hc2';exact⟨_,u,v,e5,h2,rv,cellW y _ _ hc' hcell⟩
 have q:=q (I1.fzs _ hz);have FF:=F (wide s1.heap H1 (frs X.stack)) vc (ZaL hpin.1 hpin.2.1 nfs) C;have hl:us.length=ps.length:=by rw [<-r.length];exact FF.len _ _ _ _ q
 have hb2:=hb s1 us I1.kIn (by rw [List.append_nil];exact hl);rw [List.append_nil]at hb2;refine wpAny_call (codeAny_mono (FF.run X.A X.stack s1 H1 ⟨us,[]⟩ us vs Q E0 hr I1.env0W hb2 r q) λr s' hq => ?_);cases r with
 |error e=>exact False.elim hq
 |ok fl=>
  cases fl with
  |ret u=>exact I1.after hq
  |next=>exact False.elim hq
  |brk=>exact False.elim hq
  |cont=>exact False.elim hq
abbrev Cx.pinC(X:Cx)(l:List (Addr×Obj))(z:List (Addr×Obj×Str)):Cx:={ X with pn:=l++X.pn,fz:=z++X.fz }
theorem Cx.Ok.pinC{X:Cx}(ok:X.Ok)(l:List (Addr×Obj))(z:List (Addr×Obj×Str)):(X.pinC l z).Ok:=
 ⟨ok.mod,ok.kind,ok.glob,ok.blt,ok.above,ok.inj,ok.has,ok.cab,ok.hd,ok.frames,ok.stk,ok.exf,ok.bs,ok.bsz,ok.noex,ok.exfs,ok.funs,ok.frf,ok.tb⟩
theorem Cx.Ok.unpinC{X:Cx}{l:List (Addr×Obj)}{z:List (Addr×Obj×Str)}(ok:(X.pinC l z).Ok):X.Ok:=
 ⟨ok.mod,ok.kind,ok.glob,ok.blt,ok.above,ok.inj,ok.has,ok.cab,ok.hd,ok.frames,ok.stk,ok.exf,ok.bs,ok.bsz,ok.noex,ok.exfs,ok.funs,ok.frf,ok.tb⟩
theorem Inv.pinC{l:List (Addr×Obj)}{z:List (Addr×Obj×Str)}(I:Inv X (l++pins) σ H s)(hz:∀q∈z,H q.1=some (.frz q.2.1 (.cod q.2.2))):Inv (X.pinC l z) pins σ H s:=
 ⟨I.ok.pinC l z,I.os,I.bare,I.base,I.loc,I.cell,I.free,I.freeC,λp hp=>I.pin p (by
   have hp:p∈(l++X.pn)++pins:=hp;simp only [List.mem_append]at hp ⊢;rcases hp with(z|z)|z
   · exact .inr (.inl z)
   · exact .inl z
   · exact .inr (.inr z)),I.hok,I.len,λq hq=>(List.mem_append.mp hq).elim (hz q) (I.fzs q)⟩
theorem Inv.unpinC{l:List (Addr×Obj)}{z:List (Addr×Obj×Str)}(I:Inv (X.pinC l z) pins σ H s):Inv X pins σ H s:=
 ⟨I.ok.unpinC,I.os,I.bare,I.base,I.loc,I.cell,I.free,I.freeC,λp hp=>I.pin p (by
   show p∈(l++X.pn)++pins;simp only [List.mem_append]at hp ⊢;rcases hp with z|z
   · exact .inl (.inr z)
   · exact .inr z),I.hok,I.len,λq hq=>I.fzs q (List.mem_append_right _ hq)⟩
theorem SP.unpinC{l:List (Addr×Obj)}{z:List (Addr×Obj×Str)}{D:Ends}{f:Flow}{s':Shared}(h:SP (X.pinC l z) pins D f s'):SP X pins D f s':=by
 cases f with
 |next=>obtain⟨σ',H',I,q⟩:=h;exact⟨σ',H',I.unpinC,q⟩
 |brk=>obtain⟨σ',H',I,q⟩:=h;exact⟨σ',H',I.unpinC,q⟩
 |cont=>obtain⟨σ',H',I,q⟩:=h;exact⟨σ',H',I.unpinC,q⟩
 |ret u=>obtain⟨v,σ',H',I,r,q⟩:=h;exact⟨v,σ',H',I.unpinC,r,q⟩
theorem Zad{pos:Pos}{a b:Int}{c cv:Value}:∀(l:List Value),TriplesOk l->codeAmong pos (l++[rawInt a,rawInt b,c])=some cv->codeAmong pos l=some cv\/cv=c
 | [],_,h=>by
  have h:(if(a == (pos.line:Int)&&b == (pos.col:Int))=true then some c else none)=some cv:=h
  split at h
  · cases h;exact .inr rfl
  · cases h
 | .int x tx :: .int y ty::z::r,ht,h=>by
  have h:(if(x == (pos.line:Int)&&y == (pos.col:Int))=true then some z else codeAmong pos (r++[rawInt a,rawInt b,c]))=some cv:=h;show(if(x == (pos.line:Int)&&y == (pos.col:Int))=true then some z else codeAmong pos r)=some cv\/_
  by_cases hz:(x == (pos.line:Int)&&y == (pos.col:Int))=true
  · rw [if_pos hz]at h ⊢
    exact .inl h
  · rw [if_neg hz]at h ⊢
    exact Zad r ht h
structure NestIn(mg:Str->Option Value)(base:Heap)(c P:Addr):Prop where
 hd:PySem.W.CodeHd base c P
 bm:∃bm ob,mg "__builtins__" = some (.ref bm)/\bm≠builtinsNs/\base.get? bm=some ob/\ob.cls = .type "module" /\ ob.dict=some builtinsNs/\ob.data = .plain
structure NestK(K:PySem.W.Frag)(mg:Str->Option Value)(c P:Addr):Prop where
 hd:∃o vs file tf flags tg inF text tt,K.lookup c=some o/\o.cls = .type "code" /\ o.data = .fields vs/\vs[11]? = some (.ref P)/\vs.getD 11 .none = .ref P/\vs.getD 18 .none = .str file tf/\vs.getD 7 .none = .int flags tg/\vs.getD 9 .none = .bool inF/\vs.getD 10 .none = .int text tt/\c≠P
 bm:∃bm ob,mg "__builtins__" = some (.ref bm)/\bm≠builtinsNs/\K.lookup bm=some ob/\ob.cls = .type "module" /\ ob.dict=some builtinsNs/\ob.data = .plain
theorem NestK.at{K:PySem.W.Frag}{mg:Str->Option Value}{c P:Addr}{base:Heap}(N:NestK K mg c P)(M:K.In base):NestIn mg base c P:=
 ⟨let⟨o,vs,file,tf,flags,tg,inF,text,tt,e,r⟩:=N.hd;⟨o,vs,file,tf,flags,tg,inF,text,tt,M _ _ e,r⟩,let⟨bm,ob,h1,h2,h3,r⟩:=N.bm;⟨bm,ob,h1,h2,M _ _ h3,r⟩⟩
theorem ZeU {c' P:Addr} {qual:Str} {h':Heap} {fo oc:Obj} {tk:Nat} {pos:Pos} {ps qs:Array Value} (I:Inv X pins σ H s) (hP:H P=some (.tbl ps)) (hps:ps[0]? = some (.str qual 0)) (hq:s.heap.get? P=some (PySem.W.tabObj qs)) (ht:TriplesOk qs.toList)
 (hrow:∀pos cv,codeAmong pos qs.toList=some cv->∃c oc q u,cv = .ref c/\H c=some (.frz oc (.cod q))/\ps[0]? = some (.str q u))
 (hx:Heap.ExtBut P s.heap h') (hge:s.heap.objs.size<=c') (hoc:h'.get? c'=some oc) (hrec:h'.CodeRec (.ref c') qual) (htb:h'.get? P=some (PySem.W.tabObj (qs ++ #[rawInt pos.line,rawInt pos.col,.ref c']))) :
 Inv X pins σ (upd H c' (.frz oc (.cod qual))) { s with heap:=h'.push fo,toks:=tk }:=by
 have hcn:H c'=none:=I.hok.fresh hge;have neP:∀b,H b=none->b≠P:=λb n z=>by rw [z,hP]at n;cases n
 have hPc:P≠c':=λz=>by rw [z,hcn]at hP;cases hP
 have old:∀b o,b≠P->s.heap.get? b=some o->(h'.push fo).get? b=some o:=λb o n e=>Heap.get?_push_of_some _ (hx b o n e)
 have lt:∀b o,s.heap.get? b=some o->b≠c':=λb o e=>Nat.ne_of_lt (Nat.lt_of_lt_of_le (Heap.lt_size e) hge)
 refine I.step (g':=s.gens) (d':=s.drawn) (ch:=[]) (λ_ z=>nomatch z) (λb o _ _ _ e n=>old b o (neP b n) e) (λb o _ _ _ e n=>⟨o.slots,old b o (neP b n) e⟩) (λb o _ e n=>by rw [Zc (lt b o e)];exact n)
  (λb o _ e => ?_) (λb xs e=>by rw [Zc (ZW e hcn)];exact e) (λb o u e=>by rw [Zc (ZW e hcn)];exact e) (λb ps e=>⟨#[],by rw [Zc (ZW e hcn),e];simp⟩) (λm hm=>(hm.extBut hx (neP _ I.free)).push _) (λb u e => ?_) I.bare
 · by_cases hb:b=P
   · exact⟨_,by rw [hb];exact Heap.get?_push_of_some _ htb⟩
   · exact⟨o,old b o hb e⟩
 · by_cases hb:b=c'
   · subst hb
     rw [Zm]at e;cases e;obtain⟨c2,o,vs,t,e2,g,r⟩:=hrec;cases e2;exact⟨Heap.get?_push_of_some _ hoc,_,o,vs,t,rfl,Heap.get?_push_of_some _ g,r⟩
   · rw [Zc hb]at e
     by_cases hbP:b=P
     · subst hbP
       rw [hP]at e;cases e;refine⟨_,Heap.get?_push_of_some _ htb,?_,λpos' cv z => ?_⟩
       · have:=TriplesOk_snoc pos.line pos.col (.ref c') qs.toList ht
         simpa using this
       · have z:codeAmong pos' (qs.toList++[rawInt pos.line,rawInt pos.col,.ref c'])=some cv:=by simpa using z
         rcases Zad _ ht z with z|z
         · obtain⟨c,oc',q,u,z1,z2,z3⟩:=hrow pos' cv z
           exact⟨c,oc',q,u,z1,by rw [Zc (ZW z2 hcn)];exact z2,z3⟩
         · exact⟨c',oc,qual,0,z,Zm,hps⟩
     · refine(I.hok b u e).stay (λc v hc q=>old c v ?_ q) (λc q=>by rw [Zc (ZW q hcn)];exact q) (λc xs q=>by rw [Zc (ZW q hcn)];exact q)
       rcases hc with rfl|hc
       · exact hbP
       · intro z
         rw [z,hP]at hc;cases hc
def Zf3(fo:Obj)(name qual:Str)(params:Arguments)(body:List Stmt)(scope:Scope)(cl:List (Str×Addr))(c:Addr):Prop:=
 ∃doc pm ct:Value,fo={ cls := .type "function",data := .func (PySem.W.fnX name qual params body scope cl .none .none doc pm none (.ref c) ct) }
def ZhF(i:Nat)(qual:Str)(R:Obj->Addr->Prop)(tr:Addr->Obj->Addr->Obj->TS):TS:=λD σ H=>∀p fo c oc H',Same H H'->H' c=some (.frz oc (.cod qual))->R fo c->tr p fo c oc D (σ.set i (some (.ref p))) H'
theorem ZeV {i:Nat} {name qual:Str} {params:Arguments} {body:List Stmt} {scope:Scope} {pos:Pos} {rest:List Stmt} {cl:List (Str×Addr)} {c0 P:Addr} {tr:Addr->Obj->Addr->Obj->TS}
 (hrest:∀p fo c oc,Zf3 fo name qual params body scope cl c->PSs (X.pinC [(p,fo)] [(c,oc,qual)]) rest (tr p fo c oc)) (Nk:NestK X.K X.mg c0 P) (htab:(P,qual)∈X4 X.K) (hcode:X.env.code = .ref c0) (hcl:closureFor scope X.env=pure cl)
 (hN:X.N.Nodup) (hi:X.N[i]? = some name) (hloc:X.env.scope.names.lookup name=some .local) (hq:qualnameIn X.env name name=qual)
 (hd0:params.defaults=[]:=by rfl) (hk0:params.kw_defaults=[]:=by rfl) (han:annTrees params none X.env=[]:=by rfl) :
 PSs X (.FunctionDef name params body [] none [] scope none name pos::rest) (ZhF i qual (λfo c=>Zf3 fo name qual params body scope cl c) tr):=by
 intro pins s σ H D I h;obtain⟨more,hP⟩:=I.tabs _ htab;have hP:H P=some (.tbl (#[.str qual 0]++more)):=hP
 have hps:(#[Value.str qual 0]++more)[0]? = some (.str qual 0):=by
  rw [Array.getElem?_append_left (by simp)];rfl
 obtain⟨qs,eq,ht,hrow⟩:=I.hok P _ hP;have Nn:=Nk.at I.mod.kin;obtain⟨bm,ob,b1,b2,b3,b4,b5,b6⟩:=Nn.bm;have hg:=I.mod.glob.keeps I.bk
 have neP:∀b o,X.base.get? b=some o->b≠P:=λb o e z=>by
  have:=(I.bs b o e).2;rw [z,hP]at this;cases this
 have hgP:mainGlobals≠P:=by
  obtain⟨o,_,_,e,_⟩:=I.mod.glob;exact neP _ o e
 have hbG:bm≠mainGlobals:=λq=>by
  obtain⟨o,es,ep,e,hd,_⟩:=I.mod.glob;rw [q,e]at b3;cases b3;rw [hd]at b6;cases b6
 have hb:s.heap.BuiltinsAt X.mg P:=⟨bm,ob,b1,b2,hbG,neP bm ob b3,I.bk _ _ b3,b4,b5,b6⟩
 have hC:=Nn.hd.keeps I.bk
 have fin:∀(fo:Obj)(c:Addr)(oc:Obj)(H':Hp)(h'':Heap)(tk:Nat),Same H H'->H' c=some (.frz oc (.cod qual))->Zf3 fo name qual params body scope cl c->s.heap.objs.size<=h''.objs.size->H' h''.objs.size=none->Inv X pins σ H' { s with heap:=h''.push fo,toks:=tk } ->
  wpAny (model X.prog X.w) X.A (storeName X.env name (.ref h''.objs.size)) (λ_ s2=>wpAny (model X.prog X.w) X.A (execs rest X.env) (SP X pins D) X.xe s2) X.xe { s with heap:=h''.push fo,toks:=tk }:=λfo c oc H' h'' tk sm hc hfo hsz hfn J=>by
  obtain⟨doc,pm,ct,hdat⟩:=id hfo;have hL:=I.lt
  have J2:Inv X ((h''.objs.size,fo)::pins) σ H' { s with heap:=h''.push fo,toks:=tk }:=J.pins_of λp hp=>by
   rcases List.mem_cons.mp hp with e|hp
   · subst e
     refine⟨Heap.get?_push_size _ (by rw [hdat];rfl),?_,?_,?_,λv=>by rw [hdat];exact λz=>by cases z⟩
     · exact hfn
     · intro z
       have z:h''.objs.size=X.env.locals:=z;rw [z]at hsz;exact absurd (Nat.lt_of_lt_of_le hL hsz) (Nat.lt_irrefl _)
     · exact λz=>absurd (I.nofs hsz) (λw=>w z)
   · exact J.pin p (List.mem_append_right _ hp)
  refine Jt (v:=.ref h''.objs.size) J2 hN hi (.inl hloc) rfl (λs2 J3 => ?_) (.inr hloc)
  have J4:Inv (X.pinC [(h''.objs.size,fo)] [(c,oc,qual)]) pins _ H' s2:=J3.pinC (l:=[(h''.objs.size,fo)]) λq hq=>by
   rw [List.mem_singleton.mp hq];exact hc
  exact thn (hrest h''.objs.size fo c oc hfo pins s2 _ H' D J4 (h _ fo c oc H' sm hc hfo)) λfl s3 z=>z.unpinC
 refine wpAny_execs_cons (PySem.W.nestDef_K (Q:=λf s1=>match f with
  | .next=>wpAny (model X.prog X.w) X.A (execs rest X.env) (SP X pins D) X.xe s1
  |f=>SP X pins D f s1) hd0 hk0 han ?_)
 rw [hq];cases hz:codeAmong pos qs.toList with
 |none=>
  refine PySem.W.makeFunction_K (mg:=X.mg) hcl I.ok.glob hg hcode hC eq ht hz hgP hb λc' ctv doc h' tk hx hge hlt hrec htb => ?_
  have hcn:H c'=none:=I.hok.fresh hge;obtain⟨c2,oc,vs2,t2,e2,hoc,_⟩:=id hrec;cases e2;refine fin _ c' oc (upd H c' (.frz oc (.cod qual))) h' tk (λb o e=>by rw [Zc (ZW e hcn)];exact e) Zm ⟨doc,_,ctv,rfl⟩ (Nat.le_trans hge (Nat.le_of_lt hlt)) ?_ (ZeU I hP hps eq ht hrow hx hge hoc hrec htb);rw [Zc (Nat.ne_of_gt hlt)];exact I.hok.fresh (Nat.le_trans hge (Nat.le_of_lt hlt))
 |some cv=>
  obtain⟨c,oc,q,u,e1,e2,e3⟩:=hrow pos cv hz;rw [hps]at e3;cases e3;subst e1;refine PySem.W.makeFunction_hit (mg:=X.mg) hcl I.ok.glob hg hcode hC eq ht hz hb λctv doc h' tk hk hsz => ?_
  exact fin _ c oc H h' tk (Same.refl H) e2 ⟨doc,_,ctv,rfl⟩ hsz (I.hok.fresh hsz) (I.kept λb o e=>Heap.get?_push_of_some _ (hk b o e))
end
end L2
namespace L2
open PySem PySem.Spec PyProof.Rows
theorem Inv.hidden{X:Cx}{pins:List (Addr×Obj)}{σ σ':St}{H:Hp}{s:Shared}(I:Inv X pins σ H s)(hl:σ'.length=σ.length)(w:∀(i:Nat)(v:V),σ'[i]? = some (some v)->σ[i]? = some (some v)\/∃x,X.N[i]? = some x/\¬Vis X.env.scope x):Inv X pins σ' H s:=
 ⟨I.ok,I.os,I.bare,I.base,let⟨m,hn,hl'⟩:=I.loc;⟨m,hn,λi x v e1 e2 e3=>(w i v e2).elim (λz=>hl' i x v e1 z e3) λ⟨y,h1,h2⟩=>by rw [e1]at h1;cases h1;exact absurd e3 h2⟩,I.cell,I.free,I.freeC,I.pin,I.hok,hl.trans I.len,I.fzs⟩
theorem ZfB {CX:CXT} {P:Program} {w:World} {K:PySem.W.Frag} {mg:Str->Option Value} {base:Heap} {k:Nat} {f:Addr} {name qual:Str} {params:Arguments} {body:List Stmt} {scope:Scope} {dV kV doc pm cdv ct oc:Value} {an od:Option Addr}
 {osl:Array (Option Value)} {N ps:List Str} {sp:Sp} (lk:K.lookup f=some ⟨oc,od,.func (fnOf name qual params body scope dV kV doc pm an cdv ct),osl⟩) (hcd:codeIn K cdv qual=true) (S:FnScope N ps scope)
 (len:∀vs H Q E,sp vs H Q E->vs.length=ps.length)
 (hbody:∀(A:Around)(outer:List Env)(s:Shared)(H:Hp)(vs:List V)(Q:VK)(E:XK),Room k (A.deeper (envOfC qual scope s.heap.objs.size f cdv))->sp vs H Q E ->
   ∃t σ₀,PSs (Yg CX P w K mg base N qual scope f cdv A outer s H E) body t/\σ₀.length=N.length/\(∀(i:Nat)(v:V),σ₀[i]? = some (some v)->(start N vs)[i]? = some (some v)\/∃x,N[i]? = some x/\¬Vis scope x)/\t { nx:=λ_ H'=>Q .non H',rt:=Q } σ₀ H) :
 FnOk P w K mg base CX (k+1) f (fnOf name qual params body scope dV kV doc pm an cdv ct) ps sp:=by
 refine⟨len,λA outer s H args us vs Q E hr e0 hb r hsp => ?_⟩;have hl:=len _ _ _ _ hsp;have KX:K.In s.heap:=e0.mod.kin.keeps λb o e=>(e0.bs b o e).1
 have lim:s.heap.NoLimit:=e0.mod.nolimit.keeps λb o e=>(e0.bs b o e).1
 have hkind:∀y∈ps.zip us,scope.names.lookup y.1=some .local\/(scope.names.lookup y.1=some .cell/\((cellsFrom (s.heap.objs.size+1) scope.names []).lookup y.1).isSome=true):=λ⟨n,v⟩ hy=>by
  rcases S.par n (List.of_mem_zip hy).1 with q|q
  · exact .inl q
  · exact .inr ⟨q,PySem.W.cellsFrom_some _ _ _ (.inl q)⟩
 refine codeAny_call_function hr.depth (KX _ _ lk) rfl S.co S.gen rfl (PySem.W.codeRec_of KX hcd) (hb _ _ _ _ ?_);refine wpAny_newFunctionEnv_cells S.kind hkind λenv he s1 x => ?_
 subst he;refine⟨lim.keeps x.toInCall.keep,codeAny_func ?_⟩;obtain⟨t,σ₀,ht,hσ,hw,hq⟩:=hbody A outer s H vs Q E (hr.deeper _) hsp;have I0:Inv (Yg CX P w K mg base N qual scope f cdv A outer s H E) [] (start N vs) H s1:=Za0 S hr.hd e0 hl r x;have I:=I0.hidden (hσ.trans I0.len.symm) hw;refine wpAny_mono (ht [] s1 σ₀ H _ I hq) (λfl s' hs => ?_) λe s' hs=>hs
 have fin:∀{σ':St}{H':Hp}{v:V}{u:Value},Inv (Yg CX P w K mg base N qual scope f cdv A outer s H E) [] σ' H' s'->RelV v u->Q v H'->CE outer P w H s Q u s':=
  λ{σ' H' v u} J rv q=>⟨v,H',J.os,J.bare,J.base,J.hok,rv,q⟩
 cases fl with
 |ret u=>
  obtain⟨v,σ',H',J,rv,q⟩:=hs;exact fin J rv q
 |next=>
  obtain⟨σ',H',J,q⟩:=hs;exact fin (v:=V.non) (u:=Value.none) J rfl q
 |brk=>
  obtain⟨_,_,_,q⟩:=hs;exact False.elim q
 |cont=>
  obtain⟨_,_,_,q⟩:=hs;exact False.elim q
end L2
namespace DL
open PySem PySem.Spec L2
section
variable{cA:Kn}{G:Cn}{ow owN owB owC:List Nat}
def spC(cA:Kn)(c:Addr)(qual:Str)(vc:List V)(n:Nat)(m:List D->Option D):Sp:=λvs H Q _=>∃av ds cs d,(∀a,av a->H a≠none)/\RepL cA av H ds vs/\ds.length=n/\RepL cA av H cs vc/\(∃oc,H c=some (.frz oc (.cod qual)))/\m (ds++cs)=some d/\∀v H',Same H H'->Rep cA av H' d v->Q v H'
theorem ZgP {P:Program} {w:World} {K:PySem.W.Frag} {mg:Str->Option Value} {base:Heap} {k:Nat} {f:Addr} {fo:Obj} {name qual:Str} {params:Arguments} {body:List Stmt} {scope:Scope} {cl:List (Str×Addr)} {dV kV doc pm ct:Value} {an:Option Addr} {c:Addr} {N ps fr:List Str} {vc:List V} {φ:Env->Option Out} {n:Nat} {m:List D->Option D}
 (hf:base.get? f=some fo) (hd:fo.data = .func (PySem.W.fnX name qual params body scope cl dV kV doc pm an (.ref c) ct)) (S:CloScope N ps fr scope) (C:Caps base cl fr vc)
 (hbody:∀(A:Around)(outer:List PySem.Env)(s:Shared)(H:Hp),Room k (A.deeper (PySem.W.envX qual scope s.heap.objs.size f (.ref c) cl)) ->
   ∃t,PSs (cxC P w K mg base N qual scope f (.ref c) cl A outer s H) body t/\∃owN,VS ⟨cA,λ_=>none⟩ [] owN [] [] t φ) (hm:m=run N.length φ) (hn:ps.length=n) :
 FnOk P w K mg base CX0 (k+1) f (PySem.W.fnX name qual params body scope cl dV kV doc pm an (.ref c) ct) ps (spC cA c qual vc n m):=by
 subst hm hn;refine Zij hf hd S C (λvs H Q E h => ?_) (λvs H Q E h => ?_) λA outer s H vs Q E hr h => ?_
 · obtain⟨av,ds,cs,d,_,r,hl,_⟩:=h
   rw [<-r.length,hl]
 · obtain⟨av,ds,cs,d,_,r,hl,_,oc,_⟩:=h
   exact oc
 · obtain⟨av,ds,cs,d,ha,r,hl,rc,_,hm,q⟩:=h
   obtain⟨t,ht,owN,hv⟩:=hbody A outer s H hr;refine⟨t,ht,?_⟩;unfold run at hm;cases hφ:φ ((ds++cs).map some++List.replicate (N.length-(ds++cs).length) none)with
   |none=>rw [hφ]at hm;cases hm
   |some o=>
    rw [hφ]at hm;refine hv H av _ _ H _ (QM ha (r.append rc)) o hφ _ ?_;cases o with
    |nx δ'=>cases hm;exact λA' σ' H' E'=>q .non H' E'.same rfl
    |rt d'=>cases hm;exact λv H' s' r'=>q v H' s' r'
    |bk δ'=>cases hm
    |ct δ'=>cases hm
def ins{α:Type}(j:Nat)(x:α)(l:List α):List α:=l.take j++x::l.drop j
theorem ins_get{α:Type}{j:Nat}{x:α}{l:List α}(hj:j<=l.length)(i:Nat):(ins j x l)[i]? = if i<j then l[i]? else if i=j then some x else l[i-1]? := by
 unfold ins
 by_cases h1:i<j
 · rw [if_pos h1,List.getElem?_append_left (by rw [List.length_take];omega),List.getElem?_take_of_lt h1]
 · rw [if_neg h1,List.getElem?_append_right (by rw [List.length_take];omega),List.length_take,Nat.min_eq_left hj]
   by_cases h2:i=j
   · rw [if_pos h2,h2,Nat.sub_self]
     rfl
   · rw [if_neg h2,show i-j=(i-1-j)+1 by omega,List.getElem?_cons_succ,List.getElem?_drop]
     congr 1
     omega
theorem Xy{α:Type}{j:Nat}{x:α}{l:List α}:(ins j x l).length=l.length+1:=by
 unfold ins;rw [List.length_append,List.length_cons,List.length_take,List.length_drop];omega
theorem ZgQ{α β:Type}(f:α->β)(j:Nat)(x:α)(l:List α):(ins j x l).map f=ins j (f x) (l.map f):=by
 unfold ins;rw [List.map_append,List.map_cons,List.map_take,List.map_drop]
def spF(cA:Kn)(p c:Addr)(qual:Str)(vc:List V)(j n:Nat)(m:List D->Option D):Sp:=λvs H Q _=>∃av ds ws cs d,(∀a,av a->H a≠none)/\vs=ins j (.ref p) ws/\RepL cA av H ds ws/\ds.length=n/\RepL cA av H cs vc/\(∃oc,H c=some (.frz oc (.cod qual)))/\m (ds++cs)=some d/\∀v H',Same H H'->Rep cA av H' d v->Q v H'
def ZiX(j N:Nat)(φ:Env->Option Out)(ds:List D):Option D:=match φ (ins j none (ds.map some)++List.replicate (N-ds.length-1) none)with
 |some (.rt d)=>some d
 |some (.nx _)=>some .non
 |_=>none
def Um(l:List (Option V)):Nat->Option (Addr ⊕ V):=λi=>match l[i]? with
 |some (some v)=>some (.inr v)
 |_=>none
theorem Zec{N j n:Nat}{p:Addr}{ds cs:List D}{ws vc:List V}{av:Addr->Prop}{H:Hp}{l:List (Option V)}(ha:∀a,av a->H a≠none)(r:RepL cA av H ds ws)(rc:RepL cA av H cs vc)(hn:ds.length=n)(hj:j<=n)(hl:l=ins j (some (.ref p)) (List.replicate n none++vc.map some)) :
 ER ⟨cA,Um l⟩ [] H av (λ_=>none) (ins j (some (.ref p)) ((ws++vc).map some)++List.replicate (N-(ds++cs).length-1) none) H (ins j none ((ds++cs).map some)++List.replicate (N-(ds++cs).length-1) none):=by
 have hwl:=r.length;have rr:=r.append rc;have hal:=rr.length;have hj1:j<=((ds++cs).map some).length:=by rw [List.length_map,List.length_append];omega
 have hj2:j<=((ws++vc).map (some:V->Option V)).length:=by rw [List.length_map,List.length_append];omega
 refine⟨Same.refl H,ha,λ_ _ z=>(by cases z),λ_ _ _ z=>(by cases z),λ_ _ z=>(by cases z),λ_ z=>absurd rfl z,λ_ z=>(by cases z),?_,λi a z => ?_,λi v z => ?_,λi d e => ?_⟩
 · have e1:(ins j (some (V.ref p)) ((ws++vc).map some)).length=(ws++vc).length+1:=by rw [Xy,List.length_map]
   have e2:(ins j (none:Option D) ((ds++cs).map some)).length=(ds++cs).length+1:=by rw [Xy,List.length_map]
   show(ins j (some (V.ref p)) ((ws++vc).map some)++List.replicate (N-(ds++cs).length-1) none).length=(ins j (none:Option D) ((ds++cs).map some)++List.replicate (N-(ds++cs).length-1) none).length;rw [List.length_append (as:=ins j (some (V.ref p)) ((ws++vc).map some)),List.length_append (as:=ins j (none:Option D) ((ds++cs).map some)),e1,e2,hal,List.length_replicate,List.length_replicate]
 · have z:Um l i=some (.inl a):=z
   unfold Um at z
   split at z<;>cases z
 · have z:Um l i=some (.inr v):=z
   unfold Um at z
   split at z
   · rename_i v' hv
     cases z;rw [hl,ins_get (by rw [List.length_append,List.length_replicate];omega)]at hv
     have hi:i<(ins j (some (V.ref p)) ((ws++vc).map some)).length:=by
      rw [Xy,List.length_map,List.length_append]
      by_cases h1:i<j
      · omega
      · rw [if_neg h1]at hv
        by_cases h2:i=j
        · omega
        · rw [if_neg h2]at hv
          have:=(List.getElem?_eq_some_iff.mp hv).1;rw [List.length_append,List.length_replicate,List.length_map]at this;omega
     rw [List.getElem?_append_left hi,ins_get hj2]
     by_cases h1:i<j
     · rw [if_pos h1,List.getElem?_append_left (by rw [List.length_replicate];omega),List.getElem?_replicate,if_pos (by omega)]at hv
       cases hv
     · rw [if_neg h1]at hv ⊢
       by_cases h2:i=j
       · rw [if_pos h2]at hv ⊢
         exact hv
       · rw [if_neg h2]at hv ⊢
         by_cases h3:i-1<n
         · rw [List.getElem?_append_left (by rw [List.length_replicate];omega),List.getElem?_replicate,if_pos h3]at hv
           cases hv
         · rw [List.getElem?_append_right (by rw [List.length_replicate];omega),List.length_replicate]at hv
           rw [List.map_append,List.getElem?_append_right (by rw [List.length_map];omega),List.length_map,<-hwl,hn];exact hv
   · cases z
 · by_cases hi:i<(ins j (none:Option D) ((ds++cs).map some)).length
   · rw [List.getElem?_append_left hi,ins_get hj1]at e
     have hi2:i<(ins j (some (V.ref p)) ((ws++vc).map some)).length:=by
      rw [Xy,List.length_map]at hi ⊢;omega
     have key:∀q:Nat,((ds++cs).map some)[q]? = some (some d)->∃v,((ws++vc).map some)[q]? = some (some v)/\Rep cA av H d v:=λq e=>by
      rw [List.getElem?_map]at e;cases hq:(ds++cs)[q]? with
      |none=>rw [hq]at e;cases e
      |some x=>
       rw [hq]at e;cases e;obtain⟨v,hv,rv⟩:=rr.get hq;exact⟨v,by rw [List.getElem?_map,hv];rfl,rv⟩
     have fin:∀v,(ins j (some (V.ref p)) ((ws++vc).map some))[i]? = some (some v)->Rep cA av H d v->∃v,(ins j (some (V.ref p)) ((ws++vc).map some)++List.replicate (N-(ds++cs).length-1) none)[i]? = some (some v)/\((none:Option Addr)=none->Rep cA (AV av λ_=>none) H d v)/\∀a,(none:Option Addr)=some a->v = .ref a/\Own cA (AV av λ_=>none) H d a:=λv hv rv=>
      ⟨v,by rw [List.getElem?_append_left hi2];exact hv,λ_=>rv.av (λb z=>by
        rcases z with z|⟨_,z⟩
        · exact .inl z
        · cases z),λ_ z=>(by cases z)⟩
     by_cases h1:i<j
     · rw [if_pos h1]at e
       obtain⟨v,hv,rv⟩:=key i e;exact fin v (by rw [ins_get hj2,if_pos h1];exact hv) rv
     · rw [if_neg h1]at e
       by_cases h2:i=j
       · rw [if_pos h2]at e
         cases e
       · rw [if_neg h2]at e
         obtain⟨v,hv,rv⟩:=key (i-1) e;exact fin v (by rw [ins_get hj2,if_neg h1,if_neg h2];exact hv) rv
   · rw [List.getElem?_append_right (by omega),List.getElem?_replicate]at e
     split at e<;>cases e
theorem Zkz {P:Program} {w:World} {K:PySem.W.Frag} {mg:Str->Option Value} {base:Heap} {x qual q2:Str} {st:Stmt} {f p c:Addr} {fd:FuncData} {N ps:List Str} {k j n:Nat} {vc:List V} {l:List (Option V)} {φ:Env->Option Out} {body:List Stmt} {scope:Scope} {m:List D->Option D}
 (F:FunX K x qual st f fd) (S:FnScope N ps (defScope st)) (hS:defScope st=scope) (hB:defBody st=body) (hnp:ps.length=n+1) (hj:j<=n) (hl:l=ins j (some (.ref p)) (List.replicate n none++vc.map some)) (hvN:n+1+vc.length<=N.length) (hhid:∀i y,n+1<=i->i<n+1+vc.length->N[i]? = some y->¬Vis scope y)
 (hbody:∀(cdv:Value)(A:Around)(outer:List PySem.Env)(s:Shared)(H:Hp)(E:XK)(oc:Obj),H c=some (.frz oc (.cod q2))->Room k (A.deeper (PyProof.Rows.envOfC qual scope s.heap.objs.size f cdv)) ->
   ∃t,PSs (Yg CX0 P w K mg base N qual scope f cdv A outer s H E).nox body t/\∃owN,VS ⟨cA,Um l⟩ [] owN [] [] t φ) (hm:m=ZiX j N.length φ) :
 FnOk P w K mg base CX0 (k+1) f fd ps (spF cA p c q2 vc j n m):=by
 subst hS hB hm;obtain⟨oc,od,dV,kV,doc,pm,an,cdv,ct,osl,rfl,lk,hcd⟩:=F.ex;refine ZfB lk hcd S (λvs H Q E h => ?_) λA outer s H vs Q E hr h => ?_
 · obtain⟨av,ds,ws,cs,d,_,e,r,h1,_⟩:=h
   rw [e,Xy,<-r.length,h1,hnp]
 · obtain⟨av,ds,ws,cs,d,ha,e,r,h1,rc,⟨oc',hoc⟩,hm,q⟩:=h
   obtain⟨t,ht,owN,hv⟩:=hbody cdv A outer s H E oc' hoc hr;have hwl:=r.length;have hcl:=rc.length;refine⟨t,ins j (some (.ref p)) ((ws++vc).map some)++List.replicate (N.length-(ds++cs).length-1) none,ht.nox,?_,λi v hi => ?_,?_⟩
   · rw [List.length_append,Xy,List.length_map,List.length_replicate,List.length_append,List.length_append]
     omega
   · by_cases h2:i<n+1
     · left
       have hb:i<(ins j (some (V.ref p)) ((ws++vc).map some)).length:=by rw [Xy,List.length_map,List.length_append];omega
       rw [List.getElem?_append_left hb,ins_get (by rw [List.length_map,List.length_append];omega)]at hi;unfold L2.start;rw [e,List.getElem?_append_left (by rw [List.length_map,Xy];omega),ZgQ,ins_get (by rw [List.length_map];omega)]
       by_cases h3:i<j
       · rw [if_pos h3]at hi ⊢
         rw [List.map_append,List.getElem?_append_left (by rw [List.length_map];omega)]at hi;exact hi
       · rw [if_neg h3]at hi ⊢
         by_cases h4:i=j
         · rw [if_pos h4]at hi ⊢
           exact hi
         · rw [if_neg h4]at hi ⊢
           rw [List.map_append,List.getElem?_append_left (by rw [List.length_map];omega)]at hi;exact hi
     · right
       have hb:i<n+1+vc.length:=by
        by_cases hb:i<(ins j (some (V.ref p)) ((ws++vc).map some)).length
        · rw [Xy,List.length_map,List.length_append]at hb
          omega
        · rw [List.getElem?_append_right (by omega),List.getElem?_replicate]at hi
          split at hi<;>cases hi
       have hiN:i<N.length:=by omega
       exact⟨N[i],List.getElem?_eq_getElem hiN,hhid i _ (by omega) hb (List.getElem?_eq_getElem hiN)⟩
   · unfold ZiX at hm
     cases hφ:φ (ins j none ((ds++cs).map some)++List.replicate (N.length-(ds++cs).length-1) none)with
     |none=>rw [hφ]at hm;cases hm
     |some o=>
      rw [hφ]at hm;refine hv H av _ _ H _ (Zec ha r rc h1 hj hl) o hφ _ ?_;cases o with
      |nx δ'=>cases hm;exact λA' σ' H' E'=>q .non H' E'.same rfl
      |rt d'=>cases hm;exact λv H' s' r'=>q v H' s' r'
      |bk δ'=>cases hm
      |ct δ'=>cases hm
end
end DL
namespace DL
open PySem PySem.Spec L2
section
variable{G:Cn}{ow owN owB owC:List Nat}
theorem ER.notOwn{H0 H:Hp}{av:Addr->Prop}{A:Nat->Option Addr}{σ:L2.St}{δ:Env}(E:ER G ow H0 av A σ H δ){i:Nat}(hi:(ow.contains i)=false):A i=Option.none:=by
 cases q:A i with
 |none=>rfl
 |some a=>
  have:=E.dom i (by rw [q];exact λz=>by cases z);simp at hi;exact absurd this hi
def QU(G:Cn)(ow:List Nat)(κ:Env->Option (List D))(vc:List V):Prop:=
 ∀H0 av A σ H δ,ER G ow H0 av A σ H δ->∀cs,κ δ=some cs->RepL G.1 (AV av A) H cs vc
theorem ZgR:QU G ow eNil []:=λH0 av A σ H δ E cs e=>by
 cases e;exact .nil
theorem Zaf{a:Env->Option D}{r:Env->Option (List D)}{δ:Env}{ds:List D}(e:Zb a r δ=some ds):∃x xs,a δ=some x/\r δ=some xs/\ds=x::xs:=by
 unfold Zb at e;cases h1:a δ with
 |none=>rw [h1]at e;cases e
 |some x=>
  rw [h1]at e;dsimp only at e;cases h2:r δ with
  |none=>rw [h2]at e;cases e
  |some xs=>
   rw [h2]at e;cases e;exact⟨x,xs,rfl,rfl,rfl⟩
theorem ZeW{j:Nat}{v:V}{κ:Env->Option (List D)}{vc:List V}(hj:G.2 j=some (.inr v))(ho:(ow.contains j)=false)(h:QU G ow κ vc):QU G ow (Zb (Za j) κ) (v::vc):=λH0 av A σ H δ E cs e=>by
 obtain⟨x,xs,h1,h2,rfl⟩:=Zaf e;obtain⟨v',e1,e2,_⟩:=E.var j x (ZT h1);rw [E.kept j v hj]at e1;cases e1;exact .cons (e2 (E.notOwn ho)) (h H0 av A σ H δ E xs h2)
def QV(G:Cn)(ow:List Nat)(κ:Env->Option (List D))(js:List Nat):Prop:=
 ∀H0 av A σ H δ,ER G ow H0 av A σ H δ->∀cs,κ δ=some cs->∃vc:List V,vc.length=js.length/\(∀i j:Nat,js[i]? = some j->∃v,σ[j]? = some (some v)/\vc[i]? = some v)/\RepL G.1 (AV av A) H cs vc
theorem ZeX:QV G ow eNil []:=λH0 av A σ H δ E cs e=>by
 cases e;exact⟨[],rfl,λi j z=>(by cases z),.nil⟩
theorem Zed{j:Nat}{κ:Env->Option (List D)}{js:List Nat}(ho:(ow.contains j)=false)(h:QV G ow κ js):QV G ow (Zb (Za j) κ) (j::js):=λH0 av A σ H δ E cs e=>by
 obtain⟨x,xs,h1,h2,rfl⟩:=Zaf e;obtain⟨v,e1,e2,_⟩:=E.var j x (ZT h1);obtain⟨vc,g1,g2,g3⟩:=h H0 av A σ H δ E xs h2;refine⟨v::vc,by rw [List.length_cons,List.length_cons,g1],λi k z => ?_,.cons (e2 (E.notOwn ho)) g3⟩;cases i with
 |zero=>cases z;exact⟨v,e1,rfl⟩
 |succ i=>exact g2 i k z
def Xf(n:Nat)(m:List D->Option D)(α κ:Env->Option (List D))(δ:Env):Option D:=match α δ,κ δ with
 |some ds,some cs=>if ds.length=n then m (ds++cs)else none
 |_,_=>none
theorem Zat{n:Nat}{m:List D->Option D}{α κ:Env->Option (List D)}{δ:Env}{d:D}(e:Xf n m α κ δ=some d):∃ds cs,α δ=some ds/\κ δ=some cs/\ds.length=n/\m (ds++cs)=some d:=by
 unfold Xf at e
 split at e
 · rename_i ds cs h1 h2
   by_cases hz:ds.length=n
   · rw [if_pos hz]at e
     exact⟨ds,cs,h1,h2,hz,e⟩
   · rw [if_neg hz]at e;cases e
 · cases e
theorem ZeY{i n:Nat}{p c:Addr}{qual:Str}{vc:List V}{m:List D->Option D}{t:TA}{α κ:Env->Option (List D)}(hi:G.2 i=some (.inr (.ref p)))(hk:QU G ow κ vc)(h:VA G ow t .cl α) :
 VE G ow (Zfz i p c qual (spC G.1 c qual vc n m) t) .cl (Xf n m α κ):=λH0 av A σ H δ E d e Q k=>by
 obtain⟨ds,cs,h1,h2,hn,hm⟩:=Zat e;refine⟨E.kept i _ hi,h H0 av A σ H δ E ds h1 _ λvs H1 s1 r1 hc => ?_⟩;have E1:=E.mono s1;exact⟨AV av A,ds,cs,d,E1.avl,r1.cl,hn,hk H0 av A σ H1 δ E1 cs h2,hc,hm,λv H' s r=>k v H' (s1.trans s) r.t⟩
def VAJ(G:Cn)(ow:List Nat)(t:TA)(j:Nat)(p:Addr)(α:Env->Option (List D)):Prop:=
 ∀H0 av A σ H δ,ER G ow H0 av A σ H δ->∀ds,α δ=some ds->∀Q:List V->Hp->Prop,(∀ws H',Same H H'->RepL G.1 (AV av A) H' ds ws->Q (ins j (.ref p) ws) H')->t σ H Q
theorem ZgS{i:Nat}{p:Addr}{t:TA}{α:Env->Option (List D)}(hi:G.2 i=some (.inr (.ref p)))(h:VA G ow t .cl α):VAJ G ow (Z0 (Zq i) t) 0 p α:=λH0 av A σ H δ E ds e Q k=>
 ⟨_,E.kept i _ hi,h H0 av A σ H δ E ds e _ λws H1 s1 r1=>k ws H1 s1 r1.cl⟩
theorem ZgT{j:Nat}{p:Addr}{te:TE}{t:TA}{a:Env->Option D}{α:Env->Option (List D)}(ha:VE G ow te .cl a)(h:VAJ G ow t j p α):VAJ G ow (Z0 te t) (j+1) p (Zb a α):=λH0 av A σ H δ E ds e Q k=>by
 obtain⟨x,xs,h1,h2,rfl⟩:=Zaf e;refine ha H0 av A σ H δ E x h1 _ λv H1 s1 r1=>h H0 av A σ H1 δ (E.mono s1) xs h2 _ λws H2 s2 r2 => ?_
 exact k (v::ws) H2 (s1.trans s2) (.cons ((RepT.r r1).same s2) r2)
theorem ZeZ{j n:Nat}{p c:Addr}{oc:Obj}{qual:Str}{js:List Nat}{m:List D->Option D}{t:TA}{α κ:Env->Option (List D)}(hk:QV G ow κ js)(h:VAJ G ow t j p α) :
 VE G ow (ZfA (λvc=>spF G.1 p c qual vc j n m) c oc qual js t) .cl (Xf n m α κ):=λH0 av A σ H δ E d e Q k=>by
 obtain⟨ds,cs,h1,h2,hn,hm⟩:=Zat e;obtain⟨vc,g1,g2,g3⟩:=hk H0 av A σ H δ E cs h2;refine⟨vc,g1,g2,h H0 av A σ H δ E ds h1 _ λws H1 s1 r1 hc => ?_⟩;exact⟨AV av A,ds,ws,cs,d,(E.mono s1).avl,rfl,r1,hn,g3.same s1,⟨oc,hc⟩,hm,λv H' s r=>k v H' (s1.trans s) r.t⟩
def Uo(g:Nat->Option (Addr ⊕ V))(i:Nat)(v:V):Nat->Option (Addr ⊕ V):=λk=>if k=i then some (.inr v)else g k
def QW(i:Nat)(φ:Env->Option Out)(δ:Env):Option Out:=match δ[i]? with
 |some none=>φ δ
 |_=>none
theorem ER.pinned{H0 H:Hp}{av:Addr->Prop}{A:Nat->Option Addr}{σ:L2.St}{δ:Env}{i:Nat}{v:V}(E:ER G ow H0 av A σ H δ)(hδ:δ[i]? = some Option.none):ER ⟨G.1,Uo G.2 i v⟩ ow H0 av A (σ.set i (some v)) H δ:=by
 have hi:i<σ.length:=by rw [E.len];exact(List.getElem?_eq_some_iff.mp hδ).1
 refine⟨E.same,E.avd,E.fr,E.inj,E.live,E.dom,E.dom',by rw [List.length_set];exact E.len,λk a z => ?_,λk u z => ?_,λk d e => ?_⟩
 · have z:(if k=i then some (Sum.inr v)else G.2 k)=some (Sum.inl a):=z
   by_cases hk:k=i
   · rw [if_pos hk]at z;cases z
   · rw [if_neg hk]at z;exact E.pin k a z
 · have z:(if k=i then some (Sum.inr v)else G.2 k)=some (Sum.inr u):=z
   by_cases hk:k=i
   · rw [if_pos hk]at z
     cases z;rw [hk,List.getElem?_set_self hi]
   · rw [if_neg hk]at z
     rw [List.getElem?_set_ne (Ne.symm hk)];exact E.kept k u z
 · have hk:k≠i:=λz=>by rw [z,hδ]at e;cases e
   obtain⟨u,h1,h2⟩:=E.var k d e;exact⟨u,by rw [List.getElem?_set_ne (Ne.symm hk)];exact h1,h2⟩
theorem ER.unpinA{H0 H:Hp}{av:Addr->Prop}{A:Nat->Option Addr}{σ:L2.St}{δ:Env}{i:Nat}{v:V}(hn:G.2 i=Option.none)(E:ER ⟨G.1,Uo G.2 i v⟩ ow H0 av A σ H δ):ER G ow H0 av A σ H δ:=by
 have ne:∀k x,G.2 k=some x->Uo G.2 i v k=some x:=λk x z=>by
  unfold Uo;rw [if_neg (λh=>by rw [h,hn]at z;cases z)];exact z
 exact⟨E.same,E.avd,E.fr,E.inj,E.live,E.dom,E.dom',E.len,λk a z=>E.pin k a (ne k _ z),λk u z=>E.kept k u (ne k _ z),E.var⟩
theorem Wants.pinned{H0:Hp}{av:Addr->Prop}{De:Ends}{o:Out}{i:Nat}{v:V}(hn:G.2 i=none)(h:Wants G owN owB owC H0 av De o):Wants ⟨G.1,Uo G.2 i v⟩ owN owB owC H0 av De o:=by
 cases o with
 |nx δ'=>exact λA' σ' H' E=>h A' σ' H' (E.unpinA hn)
 |rt d=>exact h
 |bk δ'=>exact λA' σ' H' E=>h A' σ' H' (E.unpinA hn)
 |ct δ'=>exact λA' σ' H' E=>h A' σ' H' (E.unpinA hn)
theorem ZgU{i:Nat}{qual:Str}{R:Obj->Addr->Prop}{tr:Addr->Obj->Addr->Obj->TS}{φ:Env->Option Out}(hn:G.2 i=none)(h:∀p fo c oc,R fo c->VS ⟨G.1,Uo G.2 i (.ref p)⟩ ow owN owB owC (tr p fo c oc) φ):VS G ow owN owB owC (ZhF i qual R tr) (QW i φ):=λH0 av A σ H δ E o e De k=>by
 unfold QW at e
 split at e
 · rename_i hδ
   intro p fo c oc H' s _ hR;exact h p fo c oc hR H0 av A (σ.set i (some (.ref p))) H' δ ((E.mono s).pinned hδ) o e De (k.pinned hn)
 · cases e
end
end DL
namespace L2
open PySem PySem.Spec PyProof.Rows
theorem Zee {P:Program} {w:World} {K:PySem.W.Frag} {mg mb:Str->Option Value} {CX:CXT} {k:Nat} {fa a Pt:Addr} {qual:Str} {fd:FuncData} {x:Str} {sp:Sp} {s₁:Shared} {vs:List Value} {ns:List Int}
 (KX:K.In s₁.heap) (hns:s₁.heap.Ns mainGlobals mg) (hb:s₁.heap.Ns builtinsNs mb) (hbb:∀x:Str,x ≠ "__name__" -> mb x=bootBuiltins x) (hlim:s₁.heap.NoLimit) (hg:s₁.gens = #[])
 (ha:s₁.heap.get? a=some { cls := .type "list",data := .seq vs.toArray }) (hi:IntsAre vs ns) (hl:ns.length<=sizeLine) (hr:Room k callerA)
 (hP:s₁.heap.get? Pt=some (PySem.W.tabObj #[])) (hT:X4 K=[(Pt,qual)]) (hKP:K.lookup Pt=none) (hct:isCodeTable s₁.heap Pt)
 (F:∀base:Heap,K.In base->base.Ns mainGlobals mg->FnOk P w K mg base CX k fa fd [x] sp) (hbind:∀(s:Shared)(u:Value),BindsTo s fd ⟨[u],[]⟩ [(x,u)])
 (hsp:∀H:Hp,SqL K H a (ns.map V.int)->sp [.ref a] H (λv _=>v = .bl true) λ_ _ _=>False)
 (hCX:∀H e s',CX [] H s₁ (λ_ _ _=>False) e s'->False) :
 codeAny (model P w) callerA (.call (.ref fa) ⟨[.ref a],[]⟩) (λr s'=>r = .ok (.ret (.bool true))/\OldK s₁.heap s'.heap/\s'.os=s₁.os/\AllBare s'.gens) s₁:=by
 have rv:=Za2 hi;have lenV:=hi.length;have haP:a≠Pt:=λz=>by rw [z,hP]at ha;cases ha
 have core:∀H:Hp,H Pt=some (.tbl #[.str qual 0])->(∀b,b≠Pt->H b=none\/(b=a/\K.lookup a=none/\∃xs,H b=some (.frz { cls := .type "list",data := .seq vs.toArray } (.lst xs))))->SqL K H a (ns.map V.int)->HOk P w H s₁.heap ->
  codeAny (model P w) callerA (.call (.ref fa) ⟨[.ref a],[]⟩) (λr s'=>r = .ok (.ret (.bool true))/\OldK s₁.heap s'.heap/\s'.os=s₁.os/\AllBare s'.gens) s₁:=by
  intro H hHP hO hS hok;have base_of:∀{b:Addr}{o:Obj},s₁.heap.get? b=some o->H b=none->(XH s₁.heap H).get? b=some o:=λe n=>Zes e n
  have noA:∀{b:Addr}{o:Obj}{es:Array DictEntry}{ep:Nat},s₁.heap.get? b=some o->o.data = .dict es ep->H b=none:=λ{b o es ep} e d=>by
   by_cases hbP:b=Pt
   · rw [hbP,hP]at e;cases e;cases d
   · rcases hO b hbP with z|⟨z,_⟩
     · exact z
     · rw [z,ha]at e;cases e;cases d
  have nsK:∀{b:Addr}{m:Str->Option Value},s₁.heap.Ns b m->(XH s₁.heap H).Ns b m:=λ{b m} ⟨o,es,ep,e,d,r⟩=>⟨o,es,ep,base_of e (noA e d),d,r⟩
  have hKb:K.In (XH s₁.heap H):=λb o e=>base_of (KX b o e) (by
   by_cases hbP:b=Pt
   · rw [hbP,hKP]at e;cases e
   · rcases hO b hbP with z|⟨z,z2,_⟩
     · exact z
     · rw [z,z2]at e;cases e)
  have hM:Mod K mg (XH s₁.heap H):=⟨hKb,nsK hns,⟨mb,nsK hb,hbb⟩,let⟨mc,h1,h2⟩:=hlim;⟨mc,nsK h1,h2⟩⟩
  have e0:Env0 P w K mg (XH s₁.heap H) callerA [] s₁ H:=⟨rfl,hM,λb o e=>Zf9 e,Nat.le_of_eq (ZdM _ _),trivial,λb hb=>absurd (show b∈([]:List Addr)from hb) (by simp),hok,.of_eq hg,λq hq=>by
   rw [hT]at hq;rw [List.mem_singleton.mp hq];exact⟨#[],by rw [hHP];rfl⟩⟩
  refine codeAny_mono ((F _ hKb (nsK hns)).run callerA [] s₁ H ⟨[.ref a],[]⟩ [.ref a] [.ref a] _ _ hr e0 (hbind s₁ (.ref a)) (.cons rfl .nil) (hsp H hS)) λr s' h => ?_
  cases r with
  |error e=>exact(hCX H e s' h).elim
  |ok fl=>
   cases fl with
   |next=>exact False.elim h
   |brk=>exact False.elim h
   |cont=>exact False.elim h
   |ret u=>
    obtain⟨v,H',os,bare,un,hok',r',q⟩:=h;have q':v = .bl true:=q;subst q';obtain rfl:u=Value.bool true:=r'
    have kept:∀b o,b≠Pt->s₁.heap.get? b=some o->s'.heap.get? b=some o:=λb o hbP e=>by
     rcases hO b hbP with z|⟨z,_,xs,z2⟩
     · exact un.keep b o e z (by intro z;exact absurd (show b∈([]:List Addr)from z) (by simp)) (by simp)
     · have z3:=un.frzs b _ _ z2
       obtain⟨e2,_⟩:=hok' b _ z3;rw [z,ha]at e;cases e;exact e2
    have tab:∃qs,s'.heap.get? Pt=some (PySem.W.tabObj qs):=by
     obtain⟨more,z⟩:=un.tbls Pt _ hHP;obtain⟨qs,e,_⟩:=hok' Pt _ z;exact⟨qs,e⟩
    refine⟨rfl,⟨λb o e => ?_,λb o e => ?_⟩,os,bare⟩
    · by_cases hbP:b=Pt
      · subst hbP
        obtain⟨qs,e2⟩:=tab;rw [hP]at e;cases e;exact .inr (.inl ⟨hct,rfl,#[],qs,rfl,by rw [Array.empty_append];exact e2⟩)
      · exact .inl (kept b o hbP e)
    · by_cases hbP:b=Pt
      · rw [hbP]
        obtain⟨qs,e2⟩:=tab;exact⟨_,e2⟩
      · exact⟨o,kept b o hbP e⟩
 have tabOk:∀H:Hp,ObjOk P w H s₁.heap Pt (.tbl #[.str qual 0]):=λH=>⟨#[],hP,trivial,λpos cv z=>by cases z⟩
 cases hk:K.lookup a with
 |some o=>
  have e:=KX a o hk;rw [ha]at e;cases e;refine core (λb=>if b=Pt then some (.tbl #[.str qual 0])else none) (if_pos rfl) (λb hb => .inl (if_neg hb)) (.inr ⟨_,vs.toArray,_,hk,rfl,rfl,rfl,by rw [List.size_toArray,lenV];exact hl,by simpa using rv⟩) (λb u z => ?_)
  by_cases hb:b=Pt
  · have z':=(if_pos hb).symm.trans z
    cases z';rw [hb];exact tabOk _
  · have z':=(if_neg hb).symm.trans z
    cases z'
 |none=>
  refine core (λb=>if b=Pt then some (.tbl #[.str qual 0])else if b=a then some (.frz { cls := .type "list",data := .seq vs.toArray } (.lst (ns.map V.int)))else none) (if_pos rfl) (λb hb => ?_) (.inl (.inr ⟨{ cls := .type "list",data := .seq vs.toArray },(if_neg haP).trans (if_pos rfl)⟩)) (λb u z => ?_)
  · by_cases hb2:b=a
    · exact .inr ⟨hb2,hk,_,(if_neg hb).trans (if_pos hb2)⟩
    · exact .inl ((if_neg hb).trans (if_neg hb2))
  · by_cases hb:b=Pt
    · have z':=(if_pos hb).symm.trans z
      cases z';rw [hb];exact tabOk _
    · have z:=(if_neg hb).symm.trans z
      by_cases hb2:b=a
      · have z':=(if_pos hb2).symm.trans z
        cases z';subst hb2;exact⟨ha,by rw [List.length_map];exact hl,vs,_,rv,ha⟩
      · have z':=(if_neg hb2).symm.trans z
        cases z'
theorem walk_of1 {l:PySem.W.OpenLaw} {n k:Nat} {q:Program} {loose:List Str} {XP:(Str->Option Value)->Heap->Prop} {YP:World->Heap->Prop} {d:DefRec} {K:Params->PySem.W.Frag} {CX:World->CXT} {sp:World->Sp} {x:Str} {Pt:Addr} {qual:Str}
 (hn:l.most=some n) (hn2:n<=sizeLine) (hdf:d.params.defaults=[]) (hr:Room k callerA)
 (hY:∀(w:World)(h:Heap),YP w h->(K w.params).In h/\h.get? Pt=some (PySem.W.tabObj #[]))
 (hT:∀w:World,X4 (K w.params)=[(Pt,qual)]) (hKP:∀w:World,(K w.params).lookup Pt=none)
 (hct:∀w:World,∃c o vs,(K w.params).lookup c=some o/\o.cls = .type "code" /\ o.data = .fields vs/\vs[11]? = some (.ref Pt))
 (F:∀(w:World)(mg:Str->Option Value)(fa:Addr)(h:Heap),(K w.params).In h->h.Ns mainGlobals mg->mg d.name=some (.ref fa) ->
   ∃fd:FuncData,(∀(s:Shared)(u:Value),BindsTo s fd ⟨[u],[]⟩ [(x,u)]) /\
    ∀base:Heap,(K w.params).In base->base.Ns mainGlobals mg->FnOk l.prog w (K w.params) mg base (CX w) k fa fd [x] (sp w))
 (hsp:∀(w:World)(H:Hp)(a:Addr)(ns:List Int),ns.length<=n->SqL (K w.params) H a (ns.map V.int)->sp w [.ref a] H (λv _=>v = .bl true) λ_ _ _=>False)
 (hCX:∀(w:World)(H:Hp)(s:Shared)(e:Value)(s':Shared),CX w [] H s (λ_ _ _=>False) e s'->False) :
 PySem.W.WalkO q loose XP YP l.row.toRowW d [] (λf vs=>PySem.call f vs):=by
 refine Att.attach_call hn hdf λw s₀ s₁ mg mb fa o pm cd doc a vs ns G Y ho hd hcd hmg hobj hints hlen hg => ?_
 obtain⟨KX,hP⟩:=hY w _ Y;obtain⟨fd,hb,hF⟩:=F w mg fa _ KX G.T.g hmg;obtain⟨c,oc,vc,h1,h2⟩:=hct w;exact Zee KX G.T.g G.T.b G.T.builtins G.T.nolimit hg hobj hints (Nat.le_trans hlen hn2) hr hP (hT w) (hKP w) ⟨c,oc,vc,KX _ _ h1,h2⟩ hF hb (λH hS=>hsp w H a ns hlen hS) λH e s'=>hCX w H s₁ e s'
end L2
namespace DL
open PySem PySem.Spec L2
section
variable{P:Program}{w:World}{K:PySem.W.Frag}{mg:Str->Option Value}{base:Heap}{cA:Kn}
end
end DL
namespace DL
open PySem PySem.Spec L2
section
variable{P:Program}{w:World}{K:PySem.W.Frag}{mg:Str->Option Value}{base:Heap}{cA:Kn}
theorem ZgV {st:Stmt} {k:Nat} {f:Addr} {fo:Obj} {name qual:Str} {body:List Stmt} {scope:Scope} {cl:List (Str×Addr)} {dV kV doc pm ct:Value} {an:Option Addr} {c:Addr} {N ps fr:List Str} {vc:List V} {φ:Env->Option Out} {n:Nat} {m:List D->Option D}
 (hf:base.get? f=some fo) (hd:fo.data = .func (PySem.W.fnX name qual (defArgs st) (defBody st) (defScope st) cl dV kV doc pm an (.ref c) ct)) (S:CloScope N ps fr (defScope st)) (C:Caps base cl fr vc) (hS:defScope st=scope) (hB:defBody st=body)
 (hbody:∀(A:Around)(outer:List PySem.Env)(s:Shared)(H:Hp),Room k (A.deeper (PySem.W.envX qual scope s.heap.objs.size f (.ref c) cl)) ->
   ∃t,PSs (cxC P w K mg base N qual scope f (.ref c) cl A outer s H) body t/\∃owN,VS ⟨cA,λ_=>none⟩ [] owN [] [] t φ) (hm:m=run N.length φ) (hn:ps.length=n) :
 FnOk P w K mg base CX0 (k+1) f (PySem.W.fnX name qual (defArgs st) (defBody st) (defScope st) cl dV kV doc pm an (.ref c) ct) ps (spC cA c qual vc n m):=by
 subst hS hB;exact ZgP hf hd S C hbody hm hn
def Zje(s:Stmt)(j:Nat):Stmt:=(defBody s).getD j (.Pass ⟨0,0,0,0⟩)
end
end DL
namespace L2
open PySem PySem.Spec PyProof.Rows
theorem ZbK{I:PySem.W.Frag}{x:Addr×Obj}{b:Addr}{o:Obj}(e:(I++[x]).lookup b=some o):I.lookup b=some o\/(I.lookup b=none/\b=x.1/\o=x.2):=by
 induction I with
 |nil=>
  obtain⟨a,u⟩:=x;rw [List.nil_append,List.lookup_cons]at e;cases hb:b == a with
  |true=>rw [hb]at e;cases e;exact .inr ⟨rfl,eq_of_beq hb,rfl⟩
  |false=>rw [hb]at e;cases e
 |cons p I ih=>
  obtain⟨a,u⟩:=p;rw [List.cons_append,List.lookup_cons]at e;rw [List.lookup_cons];cases hb:b == a with
  |true=>rw [hb]at e;exact .inl e
  |false=>rw [hb]at e;exact ih e
theorem ZbL{I:PySem.W.Frag}{x:Addr×Obj}{b:Addr}{o:Obj}(e:I.lookup b=some o):(I++[x]).lookup b=some o:=by
 induction I with
 |nil=>cases e
 |cons p I ih=>
  obtain⟨a,u⟩:=p;rw [List.lookup_cons]at e;rw [List.cons_append,List.lookup_cons];cases hb:b == a with
  |true=>rw [hb]at e;exact e
  |false=>rw [hb]at e;exact ih e
theorem Zef{I:PySem.W.Frag}{x:Addr×Obj}(e:I.lookup x.1=none):(I++[x]).lookup x.1=some x.2:=by
 induction I with
 |nil=>rw [List.nil_append,List.lookup_cons,beq_self_eq_true]
 |cons p I ih=>
  obtain⟨a,u⟩:=p;rw [List.lookup_cons]at e;rw [List.cons_append,List.lookup_cons];cases hb:x.1 == a with
  |true=>rw [hb]at e;cases e
  |false=>rw [hb]at e;exact ih e
theorem in_marked{I:PySem.W.Frag}{x m:Addr×Obj}{h:Heap}(hm:(I.lookup m.1).isSome=true)(hx:I.lookup x.1=none)(k:PySem.W.Frag.In (I++[x]) h):PySem.W.Frag.In (I++[m]) h/\h.get? x.1=some x.2:=by
 refine⟨λb o e => ?_,k _ _ (Zef hx)⟩;rcases ZbK e with z|⟨z1,z2,_⟩
 · exact k b o (ZbL z)
 · rw [<-z2,z1]at hm
   cases hm
theorem Ze0 {K:PySem.W.Frag} {mg:Str->Option Value} {h:Heap} {c P bm:Addr} {od:Option Addr} {vs:Array Value} {sl sl2:Array (Option Value)} {file:Str} {flags text:Int} {inF:Bool} {tf tg tt:Tok} (X:K.In h) (G:h.Ns mainGlobals mg)
 (e1:K.lookup c=some ⟨.type "code",od,.fields vs,sl⟩) (e2:vs[11]? = some (.ref P)) (e3:vs[18]? = some (.str file tf)) (e4:vs[7]? = some (.int flags tg)) (e5:vs[9]? = some (.bool inF)) (e6:vs[10]? = some (.int text tt)) (hne:c≠P)
 (b1:nsIn K mainGlobals "__builtins__" = some (some (.ref bm))) (b2:K.lookup bm=some ⟨.type "module",some builtinsNs,.plain,sl2⟩) (b3:bm≠builtinsNs):NestK K mg c P:=by
 have g:∀{i:Nat}{v:Value},vs[i]? = some v->vs.getD i .none=v:=λ{i v} e=>by
  rw [Array.getD_eq_getD_getElem?,e];rfl
 exact⟨⟨_,vs,file,tf,flags,tg,inF,text,tt,e1,rfl,rfl,e2,g e2,g e3,g e4,g e5,g e6,hne⟩,bm,_,mg_of X G b1,b3,b2,rfl,rfl,rfl⟩
end L2
namespace PySem
section
variable{prog:Program}{w:World}{K:Type} [DecidableEq K]{knd:HeapKind prog w K}{A:Around}{E:Value->Shared->Prop}{s:Shared}
theorem Zav {d a:Addr} {xs:List (K×Addr×Value)} {k:K} {v:Value} {Q:Value->Shared->Prop} (hu:knd.room A) (hkey:knd.is s.heap k a) (hm:s.heap.DictOfH knd d xs)
 (h1:∀p,atKey xs k=some p->Q p.2 { s with toks:=s.toks+knd.draws k })
 (h2:atKey xs k=none->∀h',h'.DictOfH knd d (storedH xs k a v)->Heap.SameBut d s.heap h'->Q v { s with heap:=h',toks:=s.toks+knd.draws k }) (hsz:xs.length<=sizeLine) :
 wpAny (model prog w) A (dictSetDefault d (.ref a) v) Q E s:=by
 obtain⟨o,es,ep,ho,hc,hd,he,his,hn⟩:=hm;unfold dictSetDefault;refine wpAny_holding (wpAny_bind (knd.pyHash hu hkey (wpAny_bind (wpAny_dictFind_heap (s:={ s with toks:=s.toks+knd.draws k }) hu hkey ho hd he his hn ?_ ?_))))
 · intro hno
   have hnot:k∉xs.map (·.1):=not_mem_keys_of_get hno
   refine wpAny_bind (wpAny_rule (wpAny_bind (wpAny_updateDictKeys (hz:=by have e:=size_of_entries he;omega) (s:={ s with toks:=s.toks+knd.draws k }) ho hd (wpAny_pure (h2 (atKey_none_of_get hno) _ ⟨_,_,ep+1,Heap.get?_update_self _ ho (Obj.isFreed_of_dict (Obj.data_mapDictKeys hd _)),
    hc.mapDictKeys _,Obj.data_mapDictKeys hd _,?_,?_,?_⟩ (Heap.SameBut.update ..))))))
   · rw [storedH_new (atKey_none_of_get hno)]
     simp [he,entryOfKey]
   · rw [storedH_new (atKey_none_of_get hno)]
     intro x hx;rcases List.mem_append.mp hx with hx|hx
     · exact knd.keeps (his x hx) ho hd (Heap.SameBut.update ..)
     · simp only [List.mem_singleton]at hx
       subst hx;exact knd.keeps hkey ho hd (Heap.SameBut.update ..)
   · rw [storedH_new (atKey_none_of_get hno),List.map_append,List.nodup_append]
     refine⟨hn,by simp,?_⟩;intro x hx y hy;simp only [List.map_cons,List.map_nil,List.mem_singleton]at hy;subst hy;exact λe=>hnot (e▸hx)
 · intro j p hj
   refine wpAny_bind (wpAny_dictEntries (s:={ s with toks:=s.toks+knd.draws k }) ho hd ?_);rw [entry_at he j,hj];exact wpAny_bind (wpAny_rule (wpAny_pure (h1 p (atKey_of_get hn hj))))
theorem Zaj(knd:HeapKind prog w K)(d a:Addr)(hd:(d == sysModules)=false)(v:Value) :
 MeetsIn prog w (Builtin.«dict.setdefault» ⟨[.ref d,.ref a,v],[]⟩) (λA R s=>knd.room A.in1/\∃k xs,knd.is s.heap k a/\s.heap.DictOfH knd d xs/\xs.length<=sizeLine /\
  (∀p,atKey xs k=some p->R (.ok (.ret p.2)) { s with toks:=s.toks+knd.draws k }) /\
  (atKey xs k=none->∀h',h'.DictOfH knd d (storedH xs k a v)->Heap.SameBut d s.heap h'->R (.ok (.ret v)) { s with heap:=h',toks:=s.toks+knd.draws k })):=
 .of_wp λA R s ⟨hu,k,xs,hk,hm,hz,h1,h2⟩=>by
  unfold Builtin.«dict.setdefault»;refine wpAny_bind ?_;unfold Builtin.Dict.keyAndDefault;refine wpAny_bind (wpAny_notOrdered_dict hm.typeIs ?_);show wpAny _ _ (pure (d,Value.ref a,some v)) _ _ s;refine wpAny_pure ?_;show wpAny _ _ (if(d == sysModules)=true then _ else(dictSetDefault d (.ref a) v >>= _)) _ _ s;rw [if_neg (by rw [hd];exact Bool.false_ne_true)];exact wpAny_bind (Zav hu hk hm (λp hp=>wpAny_pure ⟨_,rfl,h1 p hp⟩) (λhn h' hm' hs'=>wpAny_pure ⟨_,rfl,h2 hn h' hm' hs'⟩) hz)
end
end PySem
namespace L2
open PySem PySem.Spec PyProof.Rows
section
variable{X:Cx}{pins:List (Addr×Obj)}{σ:St}{H:Hp}{s:Shared}{a b:Addr}{kvs:List (List Key×V)}{k:List Key}{v:V}{r:Value}{A:Around}{E:Value->Shared->Prop}
theorem Zik {Q:Value->Shared->Prop} (hu:A.units+1<cLine) (I:Inv X pins σ H s) (e:H a=some (.dT kvs)) (eb:H b=some (.tup (k.map kV))) (l:kvs.length<sizeLine) (rv:RelV v r)
 (h1:∀x w' s',Zz kvs k=some x->Inv X pins σ H s'->RelV x w'->Q w' s') (h2:∀s',Zz kvs k=none->Inv X pins σ (upd H a (.dT (ZF kvs k v))) s'->Q r s') :
 wpAny (model X.prog X.w) A (call (.builtin "dict.setdefault") [.ref a,.ref b,r]) Q E s:=by
 obtain⟨z,hd,xs,rel,dd⟩:=Zhv I.hok e;have hz:xs.length<=sizeLine:=by rw [<-Paired.length rel];exact z
 have hl:(ZF kvs k v).length<=sizeLine:=by have:=Qx kvs k v;omega
 have hv:=rel.val k;refine call_meetsIn PySem.F.slot_dict_setdefault dd.typeIs PySem.F.entry_dict_setdefault (PySem.F.args_dict_setdefault_3 _ _ _) (Zaj (tupleKind (Yc X.prog X.w)) a b hd r) ⟨tupleKind_room_in1 hu,k,xs,Vx I.hok eb,dd,hz,λp hp => ?_,λhn h' dd' hs => ?_⟩
 · rw [hp]at hv
   cases hx:Zz kvs k with
   |none=>rw [hx]at hv;exact hv.elim
   |some x=>rw [hx]at hv;exact h1 x _ _ hx (I.tok _) hv
 · rw [hn]at hv
   cases hx:Zz kvs k with
   |some x=>rw [hx]at hv;exact hv.elim
   |none=>
    refine h2 _ hx ?_;obtain⟨q,es,ep,hq,y2,y3,y4,_,y5⟩:=dd';refine JW I (by rw [e];exact True.intro) hs ⟨q,hq⟩ ⟨hl,hd,_,(rel.put k eb rv).keeps λc ys ec => ?_,q,es,ep,hq,y2,y3,y4,y5⟩;rw [Zc (Zhm ec e (λz=>nomatch z))];exact ec
end
def ZcS(td ty tx:TE):TE:=λσ H Q=>td σ H λx H1=>∃a,x = .ref a/\IsD H1 a/\ty σ H1 λy H2=>tx σ H2 λz H3=>∃kvs k b,H3 a=some (.dT kvs)/\y = .ref b/\H3 b=some (.tup ((k:List Key).map kV))/\kvs.length<sizeLine /\
 (∀v,Zz kvs k=some v->Q v H3)/\(Zz kvs k=none->Q z (upd H3 a (.dT (ZF kvs k z))))
section
variable{X:Cx}{o e f:Expr}{apos cpos:Pos}{td ty tx:TE}
theorem Ze1 (hu:X.A.units+1<cLine) (ho:PE X o td) (he:PE X e ty) (hf:PE X f tx) (m:M2 X o "setdefault" apos e f cpos):PE X (.Call (.Attribute o "setdefault" apos) [e,f] [] cpos) (ZcS td ty tx):=by
 intro pins s σ H Q I h;refine wpAny_Call_method m.base m.few m.line PySem.F.plainAttrs_dict PySem.F.slot_dict_setdefault PySem.F.type_dict_setdefault (thn (ho pins s σ H _ I h) λu s1 ⟨x,H1,I1,rx,a,ex,d,q1⟩ => ?_);subst ex;obtain rfl:u=Value.ref a:=rx;obtain⟨t1,t2,_⟩:=JX I1 d;refine⟨t1,t2,?_⟩;rw [m.trees]
 refine Calls.callWith_builtin rfl (Calls.evalArgs_plain (Calls.spliced_cons (thn (he pins s1 σ H1 _ I1 q1) λiv s2 ⟨y,H2,I2,ry,q2⟩=>
  Calls.spliced_cons (thn (hf pins s2 σ H2 _ I2 q2) λfv s3 ⟨z,H3,I3,rz,kvs,k,b,ea,ey,eb,hl,q3,q4⟩=>Calls.spliced_nil ?_))))
 subst ey;obtain rfl:iv=Value.ref b:=ry;exact Zik hu I3 ea eb hl rz (λx w' s' e' I' r'=>⟨x,H3,I',r',q3 x e'⟩) λs' e' I'=>⟨z,_,I',rz,q4 e'⟩
end
end L2
namespace L2
open PySem PySem.Spec PyProof.Rows
section
variable{prog:Program}{w:World}{A:Around}{E:Value->Shared->Prop}{s:Shared}{d it:Addr}{es:Array DictEntry}{ep i:Nat}{o:Obj}
theorem Zbo(d:Addr)(hd:(d == sysModules)=false) :
 MeetsIn prog w (Builtin.«dict.items» ⟨[.ref d],[]⟩) (λ_ R s=>s.TypeIs (.ref d) "dict" /\
  R (.ok (.ret (.ref s.heap.objs.size))) { s with heap:=s.heap.push { cls := .type "dict_items",data := .fields #[.ref d] } }):=
 .of_wp λA R s ⟨hT,h⟩=>by
  unfold Builtin.«dict.items»;refine wpAny_bind ?_;unfold Builtin.Dict.noArgs;refine wpAny_bind (wpAny_notOrdered_dict hT ?_);show wpAny _ _ (pure d) _ _ s;refine wpAny_pure ?_;show wpAny _ _ (Builtin.Dict.showsAll d >>= _) _ _ s;unfold Builtin.Dict.showsAll;rw [if_neg (by rw [hd];exact Bool.false_ne_true)];exact wpAny_bind (wpAny_pure (wpAny_bind (wpAny_newObj_type (wpAny_pure ⟨_,rfl,h⟩))))
theorem ZbM {v:Addr} {Q:Value->Shared->Prop} (hv:s.heap.IsItemsView v d) (g:s.heap.get? d=some o) (q:o.data = .dict es ep)
 (k:Q (.ref s.heap.objs.size) { s with heap:=s.heap.push { cls := .type "dict_itemiterator",data := .fields #[.none,.bool false,.ref d,.int 0 0,.int es.size 0,.int ep 0,.none,.none] } }) :
 wpAny (model prog w) A (pyIter (.ref v)) Q E s:=by
 obtain⟨ov,hov,hcv,hdv⟩:=id hv;refine wpAny_pyIter_slot hv.typeIs PySem.F.slot_dict_items_iter (wpAny_call_entry PySem.F.slot_dict_items_iter hv.typeIs PySem.F.entry_dict_items_iter ?_ (PySem.F.args_dict_items_iter_1 _));unfold Builtin.«dict_items.__iter__»;refine wpAny_bind (wpAny_pure (wpAny_bind ?_));unfold Builtin.Dict_items.dictOf;refine wpAny_bind (wpAny_field hov hdv (x:=.ref d) rfl (wpAny_pure (wpAny_bind ?_)))
 unfold Builtin.Dict_items.newIterator;refine wpAny_bind (wpAny_dictEntries g q (wpAny_bind (wpAny_dictEpoch g q ?_)));have hown:Builtin.Dict_items.ownsTuple "dict_itemiterator" = true:=by decide
 simp only [hown,if_true]
 refine wpAny_newObj_type (wpAny_pure ⟨_,rfl, "dict_itemiterator",_,⟨_,Heap.get?_push_size _ rfl,rfl⟩,PySem.F.slot_dict_itemiterator_next.lookup,?_⟩)
  (by simp only [sizeOk,Builtin.Dict_items.ownedTupleFields,List.size_toArray,List.length_append,List.length_cons,List.length_nil,sizeLine_eq];omega)
 simpa [rawInt,Builtin.Dict_items.ownedTupleFields]using k
theorem ZbN {ok ov:Value} {Q:Option Value->Shared->Prop} (hit:IsItemIter s.heap it d i es.size ep ok ov) (hod:s.heap.get? d=some o) (hdd:o.data = .dict es ep) (hlt':i<es.size)
 (hQ:∀h',IsItemIterOut h' it d (i+1) es.size ep es[i].key es[i].val s.heap.objs.size ->
   h'.get? s.heap.objs.size=some { cls := .type "tuple",data := .seq #[es[i].key,es[i].val] } ->
   (∀b o,b≠it->s.heap.get? b=some o->h'.get? b=some o)->Q (some (.ref s.heap.objs.size)) { s with heap:=h' }) :
 wpAny (model prog w) A (pyNext (.ref it)) Q E s:=by
 obtain⟨hp,g,dr,tk,os⟩:=s;have hT:Shared.TypeIs ⟨hp,g,dr,tk,os⟩ (.ref it) "dict_itemiterator" := ⟨_,hit,rfl⟩
 unfold pyNext;refine wpAny_bind (wpAny_attempt (wpAny_callSpecial?_slot (name:=Str.ofString "__next__") hT PySem.F.slot_dict_itemiterator_next (wpAny_call_entry PySem.F.slot_dict_itemiterator_next hT PySem.F.entry_dict_itemiterator_next ?_ (PySem.F.args_dict_itemiterator_next_1 _))));refine wpAny_bind (wpAny_pure (wpAny_bind (wpAny_bind (wpAny_bind (wpAny_typeNameOfWhole_itemiter hT (wpAny_pure (wpAny_bind (wpAny_fieldsOf hit rfl ?_))))))))
 have hown:Builtin.Dict_items.ownsTuple "dict_itemiterator" = true:=by decide
 simp only [hown,if_true];show wpAny _ _ (if(Value.ref d == Value.none)=true then _ else _) _ _ _;rw [if_neg (λz=>nomatch z)];refine wpAny_bind (wpAny_pure (wpAny_bind (wpAny_dictEntries hod hdd ?_)));rw [if_neg (by simp)];refine wpAny_bind (wpAny_pure (wpAny_bind (wpAny_dictEpoch hod hdd ?_)));rw [if_neg (by simp)];refine wpAny_pure ?_;have h0:¬((i:Int)<0):=by omega
 simp only [h0,if_false,Int.toNat_natCast,Array.getElem?_eq_getElem hlt'];refine wpAny_bind (wpAny_bind (wpAny_typeNameOfWhole_itemiter hT (wpAny_pure (wpAny_bind (wpAny_isOneOf_itemiter hT ?_)))));show wpAny _ _ (setField (.ref it) 3 (rawInt ((i:Int)+1)) >>= _) _ _ ⟨hp,g,dr,tk,os⟩;refine wpAny_bind (wpAny_setField_rec hit (by simp) λh₁ he₁ hs₁ => ?_);replace hs₁:Heap.SameBut it hp h₁:=hs₁
 replace he₁:IsItemIter h₁ it d (i+1) es.size ep ok ov:=by
  have e:((i+1:Nat):Int)=(i:Int)+1:=by omega
  unfold IsItemIter;rw [e];simpa [rawInt]using he₁
 have hT₁:Shared.TypeIs ⟨h₁,g,dr,tk,os⟩ (.ref it) "dict_itemiterator" := ⟨_,he₁,rfl⟩
 refine wpAny_bind (wpAny_holding (wpAny_bind (wpAny_isOneOf_itemiter hT₁ (wpAny_bind (wpAny_isOneOf_itemiter hT₁ ?_)))));show wpAny _ _ (Builtin.Dict_items.pairFromOwner (.ref it) 6 es[i].key es[i].val) _ _ ⟨h₁,g,dr,tk,os⟩;unfold Builtin.Dict_items.pairFromOwner;refine wpAny_bind (wpAny_newTuple ?_);have he₂:IsItemIter (h₁.push { cls := .type "tuple",data := .seq #[es[i].key,es[i].val] }) it d (i+1) es.size ep ok ov:=Heap.get?_push_of_some _ he₁
 generalize hh₂:h₁.push { cls := .type "tuple",data := .seq #[es[i].key,es[i].val] }=h₂ at he₂;have hz₁:h₁.objs.size=hp.objs.size:=hs₁.1;have hil:it<hp.objs.size:=Heap.lt_size hit;have ht₂:h₂.get? hp.objs.size=some { cls := .type "tuple",data := .seq #[es[i].key,es[i].val] }:=by rw [<-hh₂,<-hz₁];exact Heap.get?_push_size _ rfl
 have hk₂:∀b o,b≠it->hp.get? b=some o->h₂.get? b=some o:=λb o hb e=>by rw [<-hh₂];exact Heap.get?_push_of_some _ (hs₁.extBut b o hb e)
 show wpAny _ _ (Builtin.Dict_items.ownedTupleIsFree (.ref it) >>= _) _ _ ⟨h₂,g,dr,tk,os⟩;rw [hz₁];clear hh₂ he₁ hs₁ hT₁ hz₁ h₁;refine wpAny_bind ?_;unfold Builtin.Dict_items.ownedTupleIsFree;refine wpAny_bind (wpAny_field he₂ rfl (x:=.none) rfl (wpAny_pure ?_));simp only [if_true];refine wpAny_bind (wpAny_field he₂ rfl (x:=ok) rfl (wpAny_bind (wpAny_field he₂ rfl (x:=ov) rfl ?_)));refine wpAny_bind (wpAny_setField_rec he₂ (by simp) λh₃ he₃ hs₃ => ?_)
 replace hs₃:Heap.SameBut it h₂ h₃:=hs₃;replace he₃:IsItemIter h₃ it d (i+1) es.size ep es[i].key ov:=he₃;refine wpAny_bind (wpAny_setField_rec he₃ (by simp) λh₄ he₄ hs₄ => ?_);replace hs₄:Heap.SameBut it h₃ h₄:=hs₄;replace he₄:IsItemIter h₄ it d (i+1) es.size ep es[i].key es[i].val:=he₄;refine wpAny_bind (wpAny_setField_rec he₄ (by simp) λh₅ he₅ hs₅ => ?_);replace hs₅:Heap.SameBut it h₄ h₅:=hs₅
 replace he₅:IsItemIterOut h₅ it d (i+1) es.size ep es[i].key es[i].val hp.objs.size:=he₅;refine wpAny_bind (wpAny_setField_rec he₅ (by simp) λh₆ he₆ hs₆ => ?_);replace hs₆:Heap.SameBut it h₅ h₆:=hs₆;replace he₆:IsItemIterOut h₆ it d (i+1) es.size ep es[i].key es[i].val hp.objs.size:=he₆;have go:∀b o,b≠it->h₂.get? b=some o->h₆.get? b=some o:=λb o hb e=>hs₆.extBut b o hb (hs₅.extBut b o hb (hs₄.extBut b o hb (hs₃.extBut b o hb e)))
 exact wpAny_bind (wpAny_letGo (wpAny_pure (wpAny_pure ⟨_,rfl,wpAny_pure (hQ h₆ he₆ (go _ _ (Nat.ne_of_gt hil) ht₂) λb o hb e=>go b o hb (hk₂ b o hb e))⟩)))
theorem ZcG {ok ov:Value} {Q:Option Value->Shared->Prop} (hh:A.handled=none) (hit:IsItemIter s.heap it d i es.size ep ok ov) (hod:s.heap.get? d=some o) (hdd:o.data = .dict es ep) (hge:es.size<=i)
 (hQ:∀h',Heap.ExtBut it s.heap h'->Q none { s with heap:=h' }):wpAny (model prog w) A (pyNext (.ref it)) Q E s:=by
 have hT:s.TypeIs (.ref it) "dict_itemiterator" := ⟨_,hit,rfl⟩
 unfold pyNext;refine wpAny_bind (wpAny_attempt (wpAny_callSpecial?_slot (name:=Str.ofString "__next__") hT PySem.F.slot_dict_itemiterator_next (wpAny_call_entry PySem.F.slot_dict_itemiterator_next hT PySem.F.entry_dict_itemiterator_next ?_ (PySem.F.args_dict_itemiterator_next_1 _))));refine wpAny_bind (wpAny_pure (wpAny_bind (wpAny_bind (wpAny_bind (wpAny_typeNameOfWhole_itemiter hT (wpAny_pure (wpAny_bind (wpAny_fieldsOf hit rfl ?_))))))))
 have hown:Builtin.Dict_items.ownsTuple "dict_itemiterator" = true:=by decide
 simp only [hown,if_true];show wpAny _ _ (if(Value.ref d == Value.none)=true then _ else _) _ _ s;rw [if_neg (λz=>nomatch z)];refine wpAny_bind (wpAny_pure (wpAny_bind (wpAny_dictEntries hod hdd ?_)));rw [if_neg (by simp)];refine wpAny_bind (wpAny_pure (wpAny_bind (wpAny_dictEpoch hod hdd ?_)));rw [if_neg (by simp)];refine wpAny_pure ?_;have h0:¬((i:Int)<0):=by omega
 simp only [h0,if_false,Int.toNat_natCast,Array.getElem?_eq_none hge];refine wpAny_bind (wpAny_bind (wpAny_typeNameOfWhole_itemiter hT (wpAny_pure ?_)));show wpAny _ _ (setField (.ref it) 2 .none >>= _) _ _ s;refine wpAny_bind (wpAny_setField hit rfl (by simp) ?_);show wpAny _ _ (newExc (.type "StopIteration") [] >>= _) _ _ _;refine wpAny_bind ?_;simp only [newExc,newTuple];refine wpAny_bind (wpAny_newObj_type ?_ (by size_fits))
 refine wpAny_bind (m:=firstArgMember _ _) (wpAny_of_eq (a:=Value.none) (by first|rfl|(simp only [firstArgMember];rfl)) (wpAny_newObj_type ?_ (by size_fits)));simp only [raiseNew];refine wpAny_bind (wpAny_handled ?_);rw [show A.in1.handled=none from hh];refine wpAny_bind (wpAny_pure (wpAny_throw ?_));refine wpAny_bind (wpAny_isInstance (T:="StopIteration") (b:=true) ⟨_,Heap.get?_push_size _ rfl,rfl⟩ isSubtype_stop ?_)
 exact wpAny_pure (hQ _ (((Heap.SameBut.update ..).extBut.push _).push _))
end
theorem ZfC{P:Program}{w:World}{H:Hp}{h:Heap}{d:Addr}{o:Obj}{kvs:List (List Key×V)}(ok:HOk P w H h)(e:H d=some (.frz o (.dT kvs))):h.get? d=some o/\∃es ep,o.ExactDict/\(d == sysModules)=false/\o.data = .dict es ep/\es.size=kvs.length /\
 ∀i(hi:i<es.size),∃ka k x,kvs[i]? = some (k,x)/\es[i].key = .ref ka/\H ka=some (.tup (k.map kV))/\RelV x es[i].val:=by
 obtain⟨g,z,y,xs,r,ob,es,ep,g2,x,q,he,_⟩:=(show ObjOk P w H h d (.frz o (.dT kvs))from ok d _ e)
 rw [g]at g2;cases g2;have hl:xs.length=kvs.length:=(Paired.length r).symm;have hz:es.size=kvs.length:=by rw [<-hl,<-Array.length_toList,he,List.length_map]
 refine⟨g,es,ep,x,y,q,hz,λi hi => ?_⟩;have hx:i<xs.length:=by omega
 have hk:i<kvs.length:=by omega
 have key:∀{l:List (List Key×V)}{m:List (List Key×Addr×Value)}{i:Nat},Paired (λ(p:List Key×V) (q:List Key×Addr×Value)=>p.1=q.1/\H q.2.1=some (.tup (p.1.map kV))/\RelV p.2 q.2.2) l m->(h1:i<l.length)->(h2:i<m.length)->H m[i].2.1=some (.tup (l[i].1.map kV))/\RelV l[i].2 m[i].2.2:=λ{l m i} r=>by
  induction r generalizing i with
  |nil=>intro h1;exact absurd h1 (Nat.not_lt_zero _)
  |cons a _ ih=>
   intro h1 h2;cases i with
   |zero=>exact⟨a.2.1,a.2.2⟩
   |succ i=>exact ih (by simpa using h1) (by simpa using h2)
 have:es.toList[i]'(by rw [Array.length_toList];exact hi)=entryOfKey (tupleKind (Yc P w)) xs[i]:=by simp [he]
 refine⟨xs[i].2.1,kvs[i].1,kvs[i].2,List.getElem?_eq_getElem hk,?_,(key r hk hx).1,?_⟩
 · rw [<-Array.getElem_toList,this]
   rfl
 · rw [<-Array.getElem_toList,this]
   exact(key r hk hx).2
def Iti(d:Addr)(o:Obj)(kvs:List (List Key×V)):It:=⟨λi H=>H d=some (.frz o (.dT kvs))/\i<kvs.length,λi H v H'=>∃p ka k x,kvs[i]? = some (k,x)/\H ka=some (.tup (k.map kV))/\H p=none/\v = .ref p/\H'=upd H p (.tup [.ref ka,x]),λi H=>H d=some (.frz o (.dT kvs))/\kvs.length<=i⟩
theorem ZcH{P:Program}{w:World}{K:PySem.W.Frag}{elts:List Expr}{x1:Nat}{tpos:Pos}(it d:Addr)(o:Obj)(es:Array DictEntry)(ep:Nat)(kvs:List (List Key×V))(hq:o.data = .dict es ep)(hz:es.size=kvs.length):Turn P w K (.Tuple elts x1 tpos) (Iti d o kvs) [it] it (λi h=>∃ok ov,IsItemIter h it d i es.size ep ok ov) where
 mem:=by simp
 obj:=λi h st b hb=>by
  have e:b=it:=by simpa using hb
  subst e;obtain⟨ok,ov,e⟩:=st
  exact⟨_,e,λv z=>by
   have z':Data.fields _=Data.cell v:=z;cases z'⟩
 keep:=λi h h' st k=>by
  obtain⟨ok,ov,e⟩:=st;exact⟨ok,ov,k it (by simp) _ e⟩
 item:=by
  intro X hP hw hK hc i pins s σ H E I hf st hg;subst hP hw hK;obtain⟨f0,f1,f2,f3,f4,f5⟩:=hf it (by simp);obtain⟨hd,hi⟩:H d=some (.frz o (.dT kvs))/\i<kvs.length:=hg;obtain⟨g,es',ep',x,_,q,_,all⟩:=ZfC I.hok hd;rw [hq]at q;cases q;obtain⟨ok,ov,st⟩:=st;have hi':i<es.size:=by omega
  obtain⟨ka,k,y,e1,e2,e3,e4⟩:=all i hi';refine ZbN st g hq hi' λh' ho hT hk => ?_
  refine⟨_,rfl,wpAny_letOwnedTupleGo_items ho λh2 he2 hs2 => ?_⟩;have hs2:Heap.SameBut it h' h2:=hs2;have hTl:it<s.heap.objs.size:=Heap.lt_size st;have hT2:h2.get? s.heap.objs.size=some { cls := .type "tuple",data := .seq #[es[i].key,es[i].val] }:=(hs2.2 _ (Nat.ne_of_gt hTl)).trans hT;have k2:∀b o,b≠it->s.heap.get? b=some o->h2.get? b=some o:=λb o hb q=>(hs2.2 b hb).trans (hk b o hb q)
  have hTn:H s.heap.objs.size=none:=I.hok.fresh (Nat.le_refl _);have neT:∀b o,s.heap.get? b=some o->b≠s.heap.objs.size:=λb o q=>Nat.ne_of_lt (Heap.lt_size q)
  have I2:Inv X pins σ (upd H s.heap.objs.size (.tup [.ref ka,y])) { s with heap:=h2 }:=by
   refine I.step (g':=s.gens) (d':=s.drawn) (ch:=[it]) (λb hb => ?_) (λb o _ _ hcb q _ => ?_) (λb o _ _ hcb q _ => ?_) (λb o hcb q n => ?_) (λb o hcb q => ?_) (λb xs q => ?_) (λb o v q => ?_) (λb ps q => ?_) (λm hm => ?_) (λb o q => ?_) I.bare
   · rw [List.mem_singleton.mp hb]
     exact⟨f3,f1,f4,f5⟩
   · exact k2 b o (λz=>hcb (by simp [z])) q
   · exact⟨o.slots,k2 b o (λz=>hcb (by simp [z])) q⟩
   · rw [Zc (neT b o q)]
     exact n
   · exact⟨o,k2 b o (λz=>hcb (by simp [z])) q⟩
   · rw [Zc (ZW q hTn)]
     exact q
   · rw [Zc (ZW q hTn)]
     exact q
   · exact⟨#[],by rw [Zc (ZW q hTn),q];simp⟩
   · obtain⟨o,es,ep,q,r⟩:=hm
     exact⟨o,es,ep,k2 _ o (Ne.symm f1) q,r⟩
   · by_cases hb:b=s.heap.objs.size
     · subst hb
       rw [Zm]at q;cases q;refine⟨by show 2<=sizeLine;decide,[es[i].key,es[i].val],.cons (by rw [e2];rfl) (.cons e4 .nil),?_⟩;exact⟨_,hT2,rfl,⟨_,rfl⟩,rfl⟩
     · rw [Zc hb]at q
       have nn:∀(b:Addr)(o:HO),H b=some o->b≠it:=λb o q z=>(by rw [z,f0]at q;cases q)
       refine(I.hok b o q).stay (λd v hd q' => ?_) (λd q'=>by rw [Zc (ZW q' hTn)];exact q') λd xs q'=>by rw [Zc (ZW q' hTn)];exact q'
       rcases hd with rfl|hd
       · exact k2 d v (nn d o q) q'
       · exact k2 d v (nn d _ hd) q'
  refine⟨.ref s.heap.objs.size,_,I2,rfl,⟨s.heap.objs.size,ka,k,y,e1,e3,hTn,rfl,rfl⟩,⟨_,_,he2⟩,λb hb => ?_⟩;rw [List.mem_singleton.mp hb,Zc (Nat.ne_of_lt hTl)];exact f0
 done:=by
  intro X hP hw hK hc i pins s σ H E I hf st hg;subst hP hw hK;obtain⟨f0,f1,f2,f3,f4,f5⟩:=hf it (by simp);obtain⟨hd,hi⟩:H d=some (.frz o (.dT kvs))/\kvs.length<=i:=hg;obtain⟨g,es',ep',x,_,q,_,all⟩:=ZfC I.hok hd;obtain⟨ok,ov,st⟩:=st;exact ZcG (I.ok.hd hc) st g hq (by omega) λh' eb=>⟨rfl,I.turned (t':=s.toks) (λb o hb e=>eb b o hb e) f0 f1 f3 f4 f5⟩
 self:=λ_ i _ _ _ st h=>by
  obtain⟨ok,ov,st⟩:=st;exact PySem.W.kcp_self st h
def ZfD(NF:Addr->Prop)(tl:TE):TI:=λσ H R=>tl σ H λx H1=>∃d kvs,x = .ref d/\H1 d=some (.dT kvs)/\∀o,NF d->R (Iti d o kvs) (upd H1 d (.frz o (.dT kvs)))
structure M0(X:Cx)(o:Expr)(m:Str)(apos cpos:Pos):Prop where
 base:attributeBase o m X.env (eval o X.env)=eval o X.env
 few:((backTo cpos (starEach [] X.env)).all (λx => !x.1)&&(backToKw cpos (keywordEach [] X.env)).all (λx=>x.1.isSome)
  && decide (([]:List Expr).length+([]:List Keyword).length+(if([]:List Keyword).isEmpty then 0 else 1)<30))=true
 line:(apos.endLine == cpos.line)=true
 trees:backTo cpos (starEach [] X.env)=[]
section
variable{X:Cx}{elts:List Expr}{x1:Nat}{tpos:Pos}{tg:Expr}
theorem Ze2 {l:Expr} {tl:TE} {NF:Addr->Prop} {apos cpos:Pos} (hl:PE X l tl) (m:M0 X l "items" apos cpos) (hN:∀d,(∀o v,X.H₀ d≠some (.frz o v))->NF d):PI X (.Tuple elts x1 tpos) (.Call (.Attribute l "items" apos) [] [] cpos) (ZfD NF tl):=by
 intro pins s σ H R I h;refine wpAny_Call_method m.base m.few m.line PySem.F.plainAttrs_dict PySem.F.slot_dict_items PySem.F.type_dict_items (thn (hl pins s σ H _ I h) λv s1 ⟨x,H1,I1,r1,q1⟩ => ?_);obtain⟨d,kvs,e,hd,q⟩:=q1;subst e;obtain rfl:v=Value.ref d:=r1;obtain⟨t1,t2,t3⟩:=JX I1 (show IsD H1 d from .inr ⟨kvs,.inl hd⟩);refine⟨t1,t2,?_⟩;rw [m.trees];refine Calls.callWith_builtin rfl (evalArgs_nil3 ?_)
 refine call_meetsIn PySem.F.slot_dict_items t1 PySem.F.entry_dict_items (PySem.F.args_dict_items_1 _) (Zbo d t3) ⟨t1,?_⟩
 have nf:∀o v,X.H₀ d≠some (.frz o v):=λo v z=>by
  have:=I1.base.frzs d o v z;rw [hd]at this;cases this
 obtain⟨o,es,ep,g,x,hq,hm,hz⟩:∃o es ep,s1.heap.get? d=some o/\o.ExactDict/\o.data = .dict es ep/\(d == sysModules)=false/\es.size=kvs.length:=by
  obtain⟨z,y,xs,r,ob,es,ep,g2,x,q,he,_⟩:=(show ObjOk X.prog X.w H1 s1.heap d (.dT kvs)from I1.hok d _ hd)
  exact⟨ob,es,ep,g2,x,q,y,by rw [<-Array.length_toList,he,List.length_map];exact(Paired.length r).symm⟩
 have I2:Inv X pins σ (upd H1 d (.frz o (.dT kvs))) s1:=I1.swap hd (λ_ z=>by cases z) (λ_ z=>by cases z) (λ_ z=>by cases z) (λ_ _ z=>by cases z) nf ⟨g,(I1.hok d _ hd).stay (λ_ _ _ r=>r) (λc r=>by rw [Zc λz=>by subst z;rw [hd]at r;cases r];exact r) (λc xs r=>by rw [Zc λz=>by subst z;rw [hd]at r;cases r];exact r) λc ob y r=>by rw [Zc λz=>by subst z;rw [hd]at r;cases r];exact r⟩
 have I3:Inv X pins σ (upd H1 d (.frz o (.dT kvs))) { s1 with heap:=s1.heap.push { cls := .type "dict_items",data := .fields #[.ref d] } }:=I2.kept (t':=s1.toks) λb o e=>Heap.get?_push_of_some _ e
 refine ZbM (d:=d) (o:=o) (es:=es) (ep:=ep) ⟨_,Heap.get?_push_size _ rfl,rfl,rfl⟩ (Heap.get?_push_of_some _ g) hq ?_;refine⟨(s1.heap.push { cls := .type "dict_items",data := .fields #[.ref d] }).objs.size,[(s1.heap.push { cls := .type "dict_items",data := .fields #[.ref d] }).objs.size],_,_,_,rfl,I3.kept (t':=s1.toks) λb o e=>Heap.get?_push_of_some _ e,ZcH _ d o es ep kvs hq hz,⟨_,_,Heap.get?_push_size _ rfl⟩,λb hb => ?_,q o (hN d nf)⟩
 rw [List.mem_singleton.mp hb];exact I3.fpOk (Nat.le_refl _) (I3.hok.fresh (Nat.le_refl _))
def Zf4(t:(Addr->Prop)->TS):TS:=λD σ H=>∀NF:Addr->Prop,t NF { D with nx:=λσ' H'=>∃d o kvs,H' d=some (.frz o (.dT kvs))/\NF d/\D.nx σ' (upd H' d (.dT kvs)) } σ H
theorem Zdq{st:Stmt}{t:(Addr->Prop)->TS}(h:∀NF:Addr->Prop,(∀d,(∀o v,X.H₀ d≠some (.frz o v))->NF d)->PS X st (t NF)):PS X st (Zf4 t):=by
 intro pins s σ H D I q;refine thn (h (λd=>∀o v,X.H₀ d≠some (.frz o v)) (λ_ z=>z) pins s σ H _ I (q λd=>∀o v,X.H₀ d≠some (.frz o v))) λf s' q => ?_
 cases f with
 |next=>
  obtain⟨σ',H',I',d,o,kvs,hd,nf,q7⟩:=q;exact⟨σ',_,I'.swap hd (λ_ z=>by cases z) (λ_ z=>by cases z) (λ_ z=>by cases z) (λ_ _ z=>by cases z) nf ((I'.hok d _ hd).2.stay (λ_ _ _ r=>r) (λc r=>by rw [Zc λz=>by subst z;rw [hd]at r;cases r];exact r) (λc xs r=>by rw [Zc λz=>by subst z;rw [hd]at r;cases r];exact r) λc ob y r=>by rw [Zc λz=>by subst z;rw [hd]at r;cases r];exact r),q7⟩
 |_=>exact q
theorem Zil {prog:Program} {w:World} {A:Around} {E:Value->Shared->Prop} {s:Shared} {d:Addr} {es:Array DictEntry} {ep:Nat} {o:Obj} {Q:Value->Shared->Prop} (hs:(d == sysModules)=false) (g:s.heap.get? d=some o) (x:o.ExactDict) (q:o.data = .dict es ep) (hfit:(es.size:Int)<2 ^ 63)
 (h:Q (.int es.size (s.toks+1)) { s with toks:=s.toks+1+1 }):wpAny (model prog w) A (call (.builtin "len") [.ref d]) Q E s:=by
 have hT:s.TypeIs (.ref d) "dict" := ⟨o,g,x.1⟩
 refine Calls.call_function_entry kind_len plain_len entry_len (args_len1 _) ?_;unfold Builtin.«len»;refine wpAny_bind (m:=oneArg "len" _) (wpAny_pure ?_);refine wpAny_bind (m:=callSpecial? (.ref d) (Str.ofString "__len__")) (wpAny_callSpecial?_slot (name:=Str.ofString "__len__") hT PySem.F.slot_dict_len (wpAny_call_entry PySem.F.slot_dict_len hT PySem.F.entry_dict_len ?_ (PySem.F.args_dict_len_1 _)))
 show wpAny _ _ (dictSize d >>= _) _ _ s;unfold dictSize;refine wpAny_bind (wpAny_bind (wpAny_dictEntries g q (wpAny_pure ?_)));show wpAny _ _ (Builtin.Dict.pendingCount d >>= _) _ _ s;refine wpAny_bind (wpAny_pendingCount_other hs ?_);refine wpAny_ret_mkInt ?_;rw [show(((es.size:Nat):Int)+((0:Nat):Int))=((es.size:Nat):Int) by omega];refine wpAny_bind (wpAny_holding (wpAny_pure (wpAny_bind (wpAny_letGo ?_))))
 show wpAny _ _ (if((es.size:Nat):Int)<0 then _ else _) _ _ _;rw [if_neg (by omega)];show wpAny _ _ (if((es.size:Nat):Int) ≥ 2 ^ 63 then _ else _) _ _ _;rw [if_neg (by omega)];exact wpAny_bind (wpAny_mkInt (wpAny_pure ⟨_,rfl,h⟩))
def UW(K:PySem.W.Frag):List V->Hp->VK->Prop:=λxs H Q=>∃p kvs,xs=[.ref p]/\Rd H p (.dT kvs)/\Q (.int kvs.length) H
theorem Zeg:Yq X (.builtin "len") (UW X.K):=by
 intro pins s σ H xs us Q I rs h;obtain⟨p,kvs,rfl,hq,q⟩:=h;obtain⟨u,rfl,rx⟩:=Y6 rs;cases rx;obtain⟨z,hd,vs,rel,dd⟩:=X9 I.hok hq;obtain⟨o,es,ep,ho,hc,hdt,he,_⟩:=dd;have hz:es.size=kvs.length:=by rw [<-Array.length_toList,he,List.length_map];exact(Paired.length rel).symm
 refine Zil hd ho hc hdt (by rw [hz];rw [sizeLine_eq]at z;omega) ⟨.int kvs.length,H,I.tok _,⟨_,by rw [hz]⟩,q⟩
theorem ZcT{K:PySem.W.Frag}(hK:X.K=K:=by rfl):Yq X (.builtin "len") (UW K):=hK▸Zeg
end
end L2
namespace Pl
section
variable{κ:Type} [DecidableEq κ](F:κ->List κ)(ks:List κ)
def Sb:Nat->κ->Bool
 |0,_=>false
 |j+1,k=>(F k).all (Sb j)
def cnt(j:Nat):Nat:=(ks.filter (Sb F j)).length
def Lv(j:Nat)(k:κ):Bool:=Sb F (j+1) k && !Sb F j k
def kah:Nat->Nat->Option Nat
 |0,_=>none
 |f+1,j=>if ks.all (λk => !Lv F j k)then(if cnt F ks j=ks.length then some j else none)else kah f (j+1)
def lc(j:Nat)(Dn:List κ)(k:κ):Nat:=(F k).countP λo => !Sb F j o && !decide (o∈Dn)
def edges:List (κ×κ):=ks.flatMap λk=>(F k).map λo=>(k,o)
def Pe(ed:List (κ×κ))(o:κ):List κ:=(ed.filter λe=>decide (e.2=o)).map (·.1)
variable{F ks}
theorem Sb_mono:∀(j:Nat)(k:κ),Sb F j k=true->Sb F (j+1) k=true
 |0,k,h=>by cases h
 |j+1,k,h=>by
  unfold Sb at h ⊢;rw [List.all_eq_true]at h ⊢;exact λo ho=>Sb_mono j o (h o ho)
theorem cnt_le(j:Nat):cnt F ks j<=ks.length:=List.length_filter_le _ _
theorem cnt_succ(j:Nat):cnt F ks (j+1)=cnt F ks j+(ks.filter (Lv F j)).length:=by
 unfold cnt
 induction ks with
 |nil=>rfl
 |cons k ks ih=>
  rw [List.filter_cons,List.filter_cons,List.filter_cons];unfold Lv at ih ⊢;cases h1:Sb F j k
  · cases h2:Sb F (j+1) k
    · simpa using ih
    · simp only [Bool.not_false,Bool.and_true,if_true,Bool.false_eq_true,if_false,List.length_cons]
      omega
  · rw [Sb_mono j k h1]
    simp only [Bool.not_true,Bool.and_false,if_true,Bool.false_eq_true,if_false,List.length_cons];omega
theorem lc_zero{j:Nat}{k:κ}:lc F j [] k=0 ↔ Sb F (j+1) k=true:=by
 show(F k).countP _=0 ↔ (F k).all (Sb F j)=true;rw [List.countP_eq_zero,List.all_eq_true];constructor
 · intro h o ho
   have:=h o ho;simpa using this
 · intro h o ho
   simp [h o ho]
theorem Ze3{k:κ}:lc F 0 [] k=(F k).length:=by
 unfold lc;rw [List.countP_eq_length];intro o _;simp [Sb]
def ct(o:κ)(l:List κ):Nat:=l.countP λx=>decide (x=o)
theorem QX(o x:κ)(l:List κ):ct o (x::l)=ct o l+if x=o then 1 else 0:=by
 unfold ct;rw [List.countP_cons]
 by_cases h:x=o
 · simp [h]
 · simp [h]
theorem QY(o:κ)(l m:List κ):ct o (l++m)=ct o l+ct o m:=List.countP_append ..
theorem ZgW{o:κ}{l:List κ}(h:o∉l):ct o l=0:=List.countP_eq_zero.mpr λx hx=>by
 simp only [decide_eq_true_eq];exact λz=>h (z▸hx)
theorem Zdr{j:Nat}{Dn:List κ}{o k:κ}(h1:Sb F j o=false)(h2:o∉Dn):lc F j Dn k=lc F j (Dn++[o]) k+ct o (F k):=by
 unfold lc
 induction F k with
 |nil=>rfl
 |cons x l ih=>
  rw [List.countP_cons,List.countP_cons,QX,ih]
  by_cases e:x=o
  · subst e
    have:(!Sb F j x && !decide (x∈Dn++[x]))=false:=by simp
    have h3:(!Sb F j x && !decide (x∈Dn))=true:=by simp [h1,h2]
    rw [this,h3];simp;omega
  · have:(!Sb F j x && !decide (x∈Dn++[o]))=(!Sb F j x && !decide (x∈Dn)):=by simp [e]
    rw [this,if_neg e];omega
theorem Zim{j:Nat}{L:List κ}{k:κ}(hc:∀o∈F k,o∈ks)(hL:∀o,o∈L ↔ o∈ks/\Lv F j o=true):lc F j L k=lc F (j+1) [] k:=by
 unfold lc;refine List.countP_congr λo ho => ?_
 have h1:=hL o;have h2:=hc o ho;unfold Lv at h1;cases h3:Sb F j o
 · cases h4:Sb F (j+1) o
   · rw [h3,h4]at h1
     have:o∉L:=λz=>by simpa using(h1.mp z).2
     simp [this]
   · rw [h3,h4]at h1
     have:o∈L:=h1.mpr ⟨h2,rfl⟩;simp [this]
 · rw [Sb_mono j o h3]
   simp
theorem Zds(ed:List (κ×κ))(k o' o:κ):Pe (ed++[(k,o')]) o=Pe ed o++(if o'=o then [k]else []):=by
 unfold Pe;rw [List.filter_append,List.map_append]
 congr 1
 by_cases h:o'=o
 · simp [h]
 · simp [h]
theorem ZfE{ks:List κ}{o k:κ}(h:k∈Pe (edges F ks) o):k∈ks/\o∈F k:=by
 unfold Pe edges at h;obtain⟨⟨a,b⟩,h1,rfl⟩:=List.mem_map.mp h;obtain⟨h2,h3⟩:=List.mem_filter.mp h1;obtain⟨c,h4,h5⟩:=List.mem_flatMap.mp h2;obtain⟨d,h6,h7⟩:=List.mem_map.mp h5;cases h7;have:b=o:=by simpa using h3
 subst this;exact⟨h4,h6⟩
theorem Zae(k a o:κ):∀l:List κ,ct k (Pe (l.map λx=>(a,x)) o)=if a=k then ct o l else 0
 | []=>by simp [Pe,ct]
 |x::l=>by
  have ih:=Zae k a o l
  have e:Pe ((x::l).map λx=>(a,x)) o=(if x=o then [a]else [])++Pe (l.map λx=>(a,x)) o:=by
   unfold Pe;rw [List.map_cons,List.filter_cons]
   by_cases h:x=o
   · simp [h]
   · simp [h]
  rw [e,QY,ih,QX]
  by_cases h:x=o
  · subst h
    by_cases h2:a=k
    · subst h2;simp [ct];omega
    · simp [h2,ct]
  · by_cases h2:a=k
    · simp [h,h2,ct]
    · simp [h,h2,ct]
theorem Zcb{o k:κ}:∀{ks:List κ},ks.Nodup->k∈ks->ct k (Pe (edges F ks) o)=ct o (F k)
 | [],_,h=>by cases h
 |a::ks,hn,h=>by
  have e:Pe (edges F (a::ks)) o=Pe ((F a).map λx=>(a,x)) o++Pe (edges F ks) o:=by
   unfold Pe edges;rw [List.flatMap_cons,List.filter_append,List.map_append]
  rw [e,QY,Zae];obtain⟨h1,h2⟩:=List.nodup_cons.mp hn
  by_cases h3:a=k
  · subst h3
    rw [if_pos rfl,ZgW λz=>h1 (ZfE z).1];rfl
  · rw [if_neg h3,Zcb h2 ((List.mem_cons.mp h).resolve_left λz=>h3 z.symm)]
    omega
theorem ZaS{l:List κ}{b:Nat}(h:b<l.length):ct l[b] (l.take b)<ct l[b] l:=by
 have e:ct l[b] l=ct l[b] (l.take b)+ct l[b] (l.drop b):=by rw [<-QY,List.take_append_drop]
 rw [e,List.drop_eq_getElem_cons h,QX,if_pos rfl];omega
theorem Zaw{l:List κ}{b:Nat}(h:b<l.length)(k:κ):ct k (l.take (b+1))=ct k (l.take b)+(if l[b]=k then 1 else 0):=by
 rw [List.take_succ_eq_append_getElem h,QY,QX];simp [ct]
end
end Pl
namespace Lg
open PySem PySem.Spec L2 DL Pl
abbrev Ky:=List Key
def TR(H:Hp)(vs:List V)(L:List Ky):Prop:=vs.length=L.length/\∀(i:Nat)(v:V)(k:Ky),vs[i]? = some v->L[i]? = some k->∃a,v = .ref a/\H a=some (.tup (k.map kV))
def TK(H H':Hp):Prop:=∀a vs,H a=some (.tup vs)->H' a=some (.tup vs)
theorem TR.mono{H H':Hp}{vs:List V}{L:List Ky}(h:TR H vs L)(k:TK H H'):TR H' vs L:=⟨h.1,λi v x e1 e2=>by
 obtain⟨a,e3,e4⟩:=h.2 i v x e1 e2;exact⟨a,e3,k a _ e4⟩⟩
theorem TR.nil{H:Hp}:TR H [] []:=⟨rfl,λi v k e=>by simp at e⟩
theorem TR.snoc{H:Hp}{vs:List V}{L:List Ky}{a:Addr}{k:Ky}(h:TR H vs L)(e:H a=some (.tup (k.map kV))):TR H (vs++[.ref a]) (L++[k]):=by
 refine⟨by rw [List.length_append,List.length_append,h.1];rfl,λi v x e1 e2 => ?_⟩
 by_cases hi:i<vs.length
 · rw [List.getElem?_append_left hi]at e1
   rw [List.getElem?_append_left (by rw [<-h.1];exact hi)]at e2;exact h.2 i v x e1 e2
 · have hl:=(List.getElem?_eq_some_iff.mp e1).1
   rw [List.length_append,List.length_singleton]at hl;have hi2:i=vs.length:=by omega
   subst hi2;rw [List.getElem?_append_right (Nat.le_refl _),Nat.sub_self]at e1;rw [List.getElem?_append_right (by rw [<-h.1];exact Nat.le_refl _),h.1,Nat.sub_self]at e2;cases e1;cases e2;exact⟨a,rfl,e⟩
theorem TR.at{H:Hp}{vs:List V}{L:List Ky}(h:TR H vs L){i:Nat}(hi:i<L.length):∃a,vs[i]? = some (.ref a)/\H a=some (.tup (L[i].map kV)):=by
 have hv:i<vs.length:=by rw [h.1];exact hi
 obtain⟨a,e1,e2⟩:=h.2 i vs[i] L[i] (List.getElem?_eq_getElem hv) (List.getElem?_eq_getElem hi);exact⟨a,by rw [List.getElem?_eq_getElem hv,e1],e2⟩
def Nm(b:Nat)(σ:St)(l:List (Nat×V)):Prop:=b+10<=σ.length/\∀q∈l,σ[b+q.1]? = some (some q.2)
theorem Nm.get{b:Nat}{σ:St}{l:List (Nat×V)}(h:Nm b σ l){j:Nat}{v:V}(e:(j,v)∈l):σ[b+j]? = some (some v):=h.2 _ e
theorem Nm.set{b j:Nat}{σ:St}{l:List (Nat×V)}{x:Option V}(h:Nm b σ l)(hj:∀q∈l,q.1≠j):Nm b (σ.set (b+j) x) l:=⟨by rw [List.length_set];exact h.1,λq hq=>by
 rw [List.getElem?_set_ne (λz=>hj q hq (by omega))];exact h.2 q hq⟩
theorem Nm.add{b j:Nat}{σ:St}{l:List (Nat×V)}{v:V}(h:Nm b σ l)(hj:∀q∈l,q.1≠j)(hl:j<10):Nm b (σ.set (b+j) (some v)) ((j,v)::l):=⟨by rw [List.length_set];exact h.1,λq hq=>by
 rcases List.mem_cons.mp hq with rfl|hq
 · exact List.getElem?_set_self (by have:=h.1;omega)
 · exact(h.set hj).2 q hq⟩
theorem Nm.sub{b:Nat}{σ:St}{l l':List (Nat×V)}(h:Nm b σ l)(hs:∀q∈l',q∈l):Nm b σ l':=⟨h.1,λq hq=>h.2 q (hs q hq)⟩
section
variable{K:PySem.W.Frag}{b:Nat}{H1:Hp}{fd lf ah:Addr}{F:Ky->List Ky}{ks:List Ky}{kvs:List (Ky×V)}
structure Bs(K:PySem.W.Frag)(H1:Hp)(fd:Addr)(F:Ky->List Ky)(ks:List Ky)(kvs:List (Ky×V)):Prop where
 keys:kvs.map (·.1)=ks
 nd:ks.Nodup
 vals:∀(i:Nat)(k:Ky)(v:V),kvs[i]? = some (k,v)->∃p vs,v = .ref p/\SqL K H1 p vs/\TR H1 vs (F k)
 top:H1 fd=some (.dT kvs)
 cl:∀k∈ks,∀o∈F k,o∈ks
 le:ks.length+(edges F ks).length<100000
def Kp(fd:Addr)(H1 H:Hp):Prop:=∀x o,x≠fd->H1 x=some o->H x=some o
def Ah(H1 H:Hp)(lf ah:Addr)(L:List Ky):Option V->Prop
 |none=>L=[]
 |some v=>∃p vs,v = .ref p/\H p=some (.lst vs)/\TR H vs L/\H1 p=none/\p≠lf/\p≠ah
structure Fl(H1 H:Hp)(fd lf ah:Addr)(F:Ky->List Ky)(ed:List (Ky×Ky))(dk:List Ky):Prop where
 kp:Kp fd H1 H
 fd1:H1 fd≠none
 fdl:H fd≠none
 lf0:H1 lf=none
 ah0:H1 ah=none
 ne:lf≠ah
 left:∃kl,H lf=some (.dT kl)/\kl.map (·.1)=dk/\∀k∈dk,Zz kl k=some (.int (F k).length)
 ahd:∃ka,H ah=some (.dT ka)/\ka.length<=ed.length/\(∀o,Ah H1 H lf ah (Pe ed o) (Zz ka o))/\∀o o' p,Zz ka o=some (.ref p)->Zz ka o'=some (.ref p)->o=o'
theorem Ah.mono{H H':Hp}{L:List Ky}{x:Option V}(h:Ah H1 H lf ah L x)(k:∀p vs,H1 p=none->p≠lf->p≠ah->x=some (.ref p)->H p=some (.lst vs)->H' p=some (.lst vs))(t:TK H H'):Ah H1 H' lf ah L x:=by
 cases x with
 |none=>exact h
 |some v=>
  obtain⟨p,vs,rfl,h1,h2,h3,h4,h5⟩:=h;exact⟨p,vs,rfl,k p vs h3 h4 h5 rfl h1,h2.mono t,h3,h4,h5⟩
theorem VP{H:Hp}{a:Addr}{o:HO}(h:∀vs,H a≠some (.tup vs)):TK H (upd H a o):=λx vs e=>by
 rw [Zc λz=>by rw [z]at e;exact h vs e];exact e
theorem QZ{H:Hp}{a:Addr}{o:HO}(h:H a=none):TK H (upd H a o):=VP λvs z=>by rw [h]at z;cases z
theorem TK.trans{H H' H'':Hp}(a:TK H H')(b:TK H' H''):TK H H'':=λx vs e=>b x vs (a x vs e)
theorem sda {ed:List (Ky×Ky)} {dk:List Ky} {H:Hp} {σ:St} {D:Ends} {one oth:Addr} {k o:Ky} (S:Fl H1 H fd lf ah F ed dk) (hn:Nm b σ [(2,.ref ah),(3,.ref one),(5,.ref oth)]) (ho:H one=some (.tup (k.map kV))) (ht:H oth=some (.tup (o.map kV))) (hl:ed.length<100000)
 (q:∀H',TK H H'->(∀x,H1 x≠none->H' x=H x)->Fl H1 H' fd lf ah F (ed++[(k,o)]) dk->D.nx σ H') :
 X6 (tBM K "list" rAppend (ZcS (Zq (b+2)) (Zq (b+5)) (Vq tNil)) (Z0 (Zq (b+3)) tNil)) D σ H:=by
 obtain⟨kl,l1,l2,l3⟩:=S.left;obtain⟨ka,a1,a2,a3,a4⟩:=S.ahd;refine⟨.ref ah,hn.get (by simp),ah,rfl,.inr ⟨ka,.inl a1⟩,.ref oth,hn.get (by simp),Nat.zero_le _,λp0 hp0 => ?_⟩;have nah:ah≠p0:=λz=>by rw [z,hp0]at a1;cases a1
 have nlf:lf≠p0:=λz=>by rw [z,hp0]at l1;cases l1
 have noth:oth≠p0:=λz=>by rw [z,hp0]at ht;cases ht
 have none1:one≠p0:=λz=>by rw [z,hp0]at ho;cases ho
 have nfd:fd≠p0:=λz=>S.fdl (by rw [z];exact hp0)
 have n1:H1 p0=none:=by
  cases q1:H1 p0 with
  |none=>rfl
  |some u=>have:=S.kp p0 u (Ne.symm nfd) q1;rw [hp0]at this;cases this
 have t0:TK H (upd H p0 (.lst [])):=QZ hp0;have hsz:ka.length<sizeLine:=by rw [sizeLine_eq];omega
 refine⟨ka,o,oth,by rw [Zc nah];exact a1,rfl,t0 _ _ ht,hsz,λv hv => ?_,λhv => ?_⟩
 · have h3:=a3 o
   rw [hv]at h3;obtain⟨p,vs,rfl,h4,h5,h6,h7,h8⟩:=h3;have np:p≠p0:=λz=>by rw [z,hp0]at h4;cases h4
   have nfp:p≠fd:=λz=>S.fd1 (by rw [<-z];exact h6)
   have h4':upd H p0 (.lst []) p=some (.lst vs):=by rw [Zc np];exact h4
   have t1:TK (upd H p0 (.lst [])) (upd (upd H p0 (.lst [])) p (.lst (vs++[.ref one]))):=VP λzs z=>by rw [h4']at z;cases z
   have tt:=t0.trans t1
   have hvl:vs.length<sizeLine:=by
    have e1:(Pe ed o).length<=ed.length:=by unfold Pe;rw [List.length_map];exact List.length_filter_le _ _
    rw [h5.1,sizeLine_eq];omega
   refine⟨.inl ⟨rfl,vs,.of h4'⟩,.ref one,hn.get (by simp),p,vs,.ref one,rfl,rfl,h4',hvl,q _ tt (λx hx => ?_) ⟨λx u nx e => ?_,S.fd1,?_,S.lf0,S.ah0,S.ne,⟨kl,?_,l2,l3⟩,ka,?_,?_,λo' => ?_,a4⟩⟩
   · rw [Zc (λz=>hx (by rw [z];exact h6)),Zc (λz=>hx (by rw [z];exact n1))]
   · rw [Zc (λz=>by rw [z,h6]at e;cases e),Zc (λz=>by rw [z,n1]at e;cases e)]
     exact S.kp x u nx e
   · rw [Zc (Ne.symm nfp),Zc nfd];exact S.fdl
   · rw [Zc (Ne.symm h7),Zc nlf];exact l1
   · rw [Zc (Ne.symm h8),Zc nah];exact a1
   · rw [List.length_append];omega
   · rw [Zds]
     by_cases e:o=o'
     · subst e
       rw [if_pos rfl,hv];exact⟨p,vs++[.ref one],rfl,Zm,(h5.mono tt).snoc (tt _ _ ho),h6,h7,h8⟩
     · rw [if_neg e,List.append_nil]
       refine(a3 o').mono (λp' vs' _ _ _ ex e' => ?_) tt;rw [Zc (λz=>e (a4 o o' p hv (by rw [ex,z]))),Zc (λz=>by rw [z,hp0]at e';cases e')];exact e'
 · have h3:=a3 o
   rw [hv]at h3;have e1:upd (upd H p0 (.lst [])) ah (.dT (ZF ka o (.ref p0))) p0=some (.lst []):=by rw [Zc (Ne.symm nah),Zm]
   have t1:TK (upd H p0 (.lst [])) (upd (upd H p0 (.lst [])) ah (.dT (ZF ka o (.ref p0)))):=VP λzs z=>by rw [Zc nah,a1]at z;cases z
   have t2:TK (upd (upd H p0 (.lst [])) ah (.dT (ZF ka o (.ref p0)))) (upd (upd (upd H p0 (.lst [])) ah (.dT (ZF ka o (.ref p0)))) p0 (.lst ([]++[.ref one]))):=VP λzs z=>by rw [e1]at z;cases z
   have tt:=(t0.trans t1).trans t2;have nfa:fd≠ah:=λz=>S.fd1 (by rw [z];exact S.ah0)
   refine⟨.inl ⟨rfl,[],.of e1⟩,.ref one,hn.get (by simp),p0,[],.ref one,rfl,rfl,e1,by rw [sizeLine_eq];show 0<_;omega,q _ tt (λx hx => ?_) ⟨λx u nx e => ?_,S.fd1,?_,S.lf0,S.ah0,S.ne,⟨kl,?_,l2,l3⟩,ZF ka o (.ref p0),?_,?_,λo' => ?_,λo1 o2 p' y1 y2 => ?_⟩⟩
   · rw [Zc (λz=>hx (by rw [z];exact n1)),Zc (λz=>hx (by rw [z];exact S.ah0)),Zc (λz=>hx (by rw [z];exact n1))]
   · rw [Zc (λz=>by rw [z,n1]at e;cases e),Zc (λz=>by rw [z,S.ah0]at e;cases e),Zc (λz=>by rw [z,n1]at e;cases e)]
     exact S.kp x u nx e
   · rw [Zc nfd,Zc nfa,Zc nfd];exact S.fdl
   · rw [Zc nlf,Zc S.ne,Zc nlf];exact l1
   · rw [Zc nah,Zm]
   · have:=Qx ka o (.ref p0)
     rw [List.length_append];show _<=ed.length+1;omega
   · rw [Zds,UF]
     by_cases e:o=o'
     · subst e
       rw [if_pos rfl,if_pos rfl,h3];exact⟨p0,[.ref one],rfl,Zm,TR.nil.snoc (tt _ _ ho),n1,Ne.symm nlf,Ne.symm nah⟩
     · rw [if_neg e,if_neg (Ne.symm e),List.append_nil]
       refine(a3 o').mono (λp' vs' _ _ n3 ex e' => ?_) tt;rw [Zc (λz=>by rw [z,hp0]at e';cases e'),Zc n3,Zc (λz=>by rw [z,hp0]at e';cases e')];exact e'
   · rw [UF]at y1 y2
     have old:∀o3 p3,Zz ka o3=some (.ref p3)->p3≠p0:=λo3 p3 y z=>by
      have:=a3 o3;rw [y]at this;obtain⟨p4,vs4,e4,e5,_⟩:=this;cases e4;rw [z,hp0]at e5;cases e5
     by_cases e1:o1=o
     · by_cases e2:o2=o
       · rw [e1,e2]
       · rw [if_pos e1]at y1
         rw [if_neg e2]at y2;cases y1;exact absurd rfl (old _ _ y2)
     · rw [if_neg e1]at y1
       by_cases e2:o2=o
       · rw [if_pos e2]at y2
         cases y2;exact absurd rfl (old _ _ y1)
       · rw [if_neg e2]at y2
         exact a4 _ _ _ y1 y2
end
end Lg
namespace Lg
open PySem PySem.Spec L2 DL Pl
theorem Ze4{kl:List (Ky×V)}{k:Ky}{v:V}(h:k∈kl.map (·.1)):(ZF kl k v).map (·.1)=kl.map (·.1):=by
 unfold ZF;rw [if_pos]
 · rw [List.map_map]
   refine List.map_congr_left λq _ => ?_
   show(if q.1=k then(q.1,v)else q).1=q.1
   split<;>rfl
 · obtain⟨q,hq,e⟩:=List.mem_map.mp h
   exact List.any_eq_true.mpr ⟨q,hq,by simpa using e⟩
theorem Ze5{kl:List (Ky×V)}{k:Ky}(h:k∉kl.map (·.1)):Zz kl k=none:=by
 unfold Zz;rw [List.find?_eq_none.mpr]
 · rfl
 · intro q hq
   simp only [decide_eq_true_eq];exact λe=>h (List.mem_map.mpr ⟨q,hq,e⟩)
def NK(b:Nat)(J:List Nat)(σ σ':St):Prop:=∀l:List (Nat×V),(∀q∈l,q.1∉J)->Nm b σ l->Nm b σ' l
theorem NK.refl{b:Nat}{J:List Nat}{σ:St}:NK b J σ σ:=λ_ _ h=>h
theorem NK.trans{b:Nat}{J:List Nat}{σ σ' σ'':St}(a:NK b J σ σ')(c:NK b J σ' σ''):NK b J σ σ'':=λl h x=>c l h (a l h x)
theorem NK.set{b j:Nat}{J:List Nat}{σ:St}{x:Option V}(h:j∈J):NK b J σ (σ.set (b+j) x):=λl hl hn=>hn.set λq hq z=>hl q hq (by rw [z];exact h)
theorem NK.wide{b:Nat}{J J':List Nat}{σ σ':St}(a:NK b J σ σ')(h:∀j∈J,j∈J'):NK b J' σ σ':=λl hl hn=>a l (λq hq z=>hl q hq (h _ z)) hn
section
variable{K:PySem.W.Frag}{b:Nat}{H1:Hp}{fd lf ah:Addr}{F:Ky->List Ky}{ks:List Ky}{kvs:List (Ky×V)}
theorem Bs.sq{p:Addr}{vs:List V}{H:Hp}(B:Bs K H1 fd F ks kvs)(k:Kp fd H1 H)(h:SqL K H1 p vs):SqL K H p vs:=by
 rcases h with h|h
 · refine .inl (Rd.ext h λo e=>k p o (λz => ?_) e)
   rcases h with h|⟨o',h⟩
   · rw [z,B.top]at h;cases h
   · rw [z,B.top]at h;cases h
 · exact .inr h
theorem Fl.fresh{ed:List (Ky×Ky)}{dk:List Ky}{H:Hp}{p:Addr}{o:HO}(S:Fl H1 H fd lf ah F ed dk)(hp:H p=none):Fl H1 (upd H p o) fd lf ah F ed dk:=by
 obtain⟨kl,l1,l2,l3⟩:=S.left;obtain⟨ka,a1,a2,a3,a4⟩:=S.ahd;have n:∀{x u},H x=some u->x≠p:=λe z=>by rw [z,hp]at e;cases e
 refine⟨λx u nx e => ?_,S.fd1,?_,S.lf0,S.ah0,S.ne,⟨kl,?_,l2,l3⟩,ka,?_,a2,λo'=>(a3 o').mono (λp' vs' _ _ _ _ e' => ?_) (QZ hp),a4⟩
 · have:=S.kp x u nx e
   rw [Zc (n this)];exact this
 · rw [Zc λz=>S.fdl (by rw [z];exact hp)]
   exact S.fdl
 · rw [Zc (n l1)];exact l1
 · rw [Zc (n a1)];exact a1
 · rw [Zc (n e')];exact e'
theorem Fl.put{ed:List (Ky×Ky)}{dk:List Ky}{H:Hp}{k:Ky}{kl:List (Ky×V)}(S:Fl H1 H fd lf ah F ed dk)(l1:H lf=some (.dT kl))(hk:k∉dk):Fl H1 (upd H lf (.dT (ZF kl k (.int (F k).length)))) fd lf ah F ed (dk++[k]):=by
 obtain⟨kl',l1',l2,l3⟩:=S.left;rw [l1]at l1';cases l1';obtain⟨ka,a1,a2,a3,a4⟩:=S.ahd;have nfl:fd≠lf:=λz=>S.fd1 (by rw [z];exact S.lf0)
 refine⟨λx u nx e => ?_,S.fd1,?_,S.lf0,S.ah0,S.ne,⟨_,Zm,?_,λk' hk' => ?_⟩,ka,?_,a2,λo'=>(a3 o').mono (λp' vs' _ n2 _ _ e' => ?_) (VP λvs z=>by rw [l1]at z;cases z),a4⟩
 · rw [Zc (λz=>by rw [z,S.lf0]at e;cases e)]
   exact S.kp x u nx e
 · rw [Zc nfl];exact S.fdl
 · rw [Zez _ (Ze5 (by rw [l2];exact hk)),List.map_append,l2]
   rfl
 · rw [UF]
   by_cases e:k'=k
   · rw [if_pos e,e]
   · rw [if_neg e]
     exact l3 k' ((List.mem_append.mp hk').resolve_right λz=>e (List.mem_singleton.mp z))
 · rw [Zc (Ne.symm S.ne)];exact a1
 · rw [Zc n2];exact e'
abbrev Zkj(K:PySem.W.Frag)(b:Nat):TS:=X6 (tBM K "list" rAppend (ZcS (Zq (b+2)) (Zq (b+5)) (Vq tNil)) (Z0 (Zq (b+3)) tNil))
theorem ZgX {ed:List (Ky×Ky)} {dk:List Ky} {H:Hp} {σ:St} {D:Ends} {one pv:Addr} {vsF:List V} {k:Ky} (B:Bs K H1 fd F ks kvs) (S:Fl H1 H fd lf ah F ed dk) (hn:Nm b σ [(2,.ref ah),(3,.ref one),(4,.ref pv)]) (hone:H one=some (.tup (k.map kV))) (hsq:SqL K H1 pv vsF) (htr:TR H1 vsF (F k)) (hl:ed.length+(F k).length<100000)
 (q:∀σ' H',NK b [5] σ σ'->(∀x,H1 x≠none->H' x=H x)->Fl H1 H' fd lf ah F (ed++(F k).map λo=>(k,o)) dk->D.nx σ' H') :
 XI (Vu K (Zq (b+4))) (ZG (b+5)) (Zkj K b) D σ H:=by
 refine⟨.ref pv,hn.get (by simp),.inl ⟨pv,vsF,rfl,B.sq S.kp hsq,?_⟩⟩
 let W:Nat->Nat->St->Hp->Prop:=λi m σ' H'=>i<=(F k).length/\m=(F k).length-i/\NK b [5] σ σ'/\TK H H'/\(∀x,H1 x≠none->H' x=H x)/\Fl H1 H' fd lf ah F (ed++((F k).take i).map λo=>(k,o)) dk
 refine⟨W,⟨(F k).length,Nat.zero_le _,rfl,.refl,λ_ _ e=>e,λ_ _=>rfl,by simpa using S⟩,λi m σ' H' ⟨w1,w2,w3,w4,w5,w6⟩ => ?_⟩;have hsq':=B.sq w6.kp hsq
 by_cases hi:i<(F k).length
 · obtain⟨ta,e1,e2⟩:=htr.at hi
   refine .inr ⟨⟨vsF,.ref ta,hsq',e1⟩,W (i+1) ((F k).length-(i+1)),λσ2 H2 h=>⟨_,by omega,h⟩,λx H3 ⟨e3,e4⟩ => ?_⟩;subst e3
   have ex:x = .ref ta:=by
    have:=e4 vsF hsq';rw [e1]at this;exact(Option.some.inj this).symm
   subst ex;have nta:ta≠fd:=λz=>by rw [z,B.top]at e2;cases e2
   have hn':Nm b (σ'.set (b+5) (some (.ref ta))) [(2,.ref ah),(3,.ref one),(5,.ref ta)]:=
    ((w3 [(2,.ref ah),(3,.ref one)] (by simp) (hn.sub (by simp))).add (j:=5) (v:=.ref ta) (by simp) (by decide)).sub (by simp)
   refine sda w6 hn' (w4 _ _ hone) (w6.kp _ _ nta e2) ?_ λH4 t4 k4 S4=>⟨hi,rfl,w3.trans (.set (by simp)),w4.trans t4,λy hy=>(k4 y hy).trans (w5 y hy),?_⟩
   · rw [List.length_append,List.length_map,List.length_take];omega
   · rw [List.take_succ_eq_append_getElem hi,List.map_append,<-List.append_assoc]
     exact S4
 · have:i=(F k).length:=by omega
   subst this;rw [List.take_length]at w6;exact .inl ⟨⟨vsF,hsq',by rw [htr.1];exact Nat.le_refl _⟩,q σ' H' w3 w5 w6⟩
abbrev Zf5(K:PySem.W.Frag)(b:Nat):TS:=Zf4 λNF=>XI (ZfD NF (Zq b)) (Qg K 2 (Qe (ZG (b+3)) (Qe (ZG (b+4)) gNil)))
 (ZS (UH (Zq (b+1)) (Zq (b+3)) (tCB (UD K) (Z0 (Zq (b+4)) tNil))) (XI (Vu K (Zq (b+4))) (ZG (b+5)) (Zkj K b)))
theorem ZaF(l:List Ky)(k:Ky):edges F (l++[k])=edges F l++(F k).map λo=>(k,o):=by
 unfold edges;rw [List.flatMap_append];simp
theorem ZcI(i:Nat):(edges F (ks.take i)).length<=(edges F ks).length:=by
 conv=>rhs;rw [<-List.take_append_drop i ks]
 unfold edges;rw [List.flatMap_append,List.length_append];exact Nat.le_add_right _ _
theorem ZgY {H:Hp} {σ:St} {D:Ends} (B:Bs K H1 fd F ks kvs) (hH:H fd=some (.dT kvs)) (S:Fl H1 H fd lf ah F [] []) (hn:Nm b σ [(0,.ref fd),(1,.ref lf),(2,.ref ah)])
 (q:∀σ' H',NK b [3,4,5] σ σ'->H' fd=some (.dT kvs)->Fl H1 H' fd lf ah F (edges F ks) ks->D.nx σ' H'):Zf5 K b D σ H:=by
 intro NF;refine⟨.ref fd,hn.get (j:=0) (by simp),fd,kvs,rfl,hH,λob hNF => ?_⟩;have kl:kvs.length=ks.length:=by rw [<-B.keys,List.length_map]
 have nfl:fd≠lf:=λz=>S.fd1 (by rw [z];exact S.lf0)
 have nfa:fd≠ah:=λz=>S.fd1 (by rw [z];exact S.ah0)
 have S0:Fl H1 (upd H fd (.frz ob (.dT kvs))) fd lf ah F [] []:=by
  obtain⟨kl,l1,l2,l3⟩:=S.left;obtain⟨ka,a1,a2,a3,a4⟩:=S.ahd;refine⟨λx u nx e=>by rw [Zc nx];exact S.kp x u nx e,S.fd1,by rw [Zm];exact λz=>(by cases z),S.lf0,S.ah0,S.ne,⟨kl,by rw [Zc (Ne.symm nfl)];exact l1,l2,l3⟩,ka,by rw [Zc (Ne.symm nfa)];exact a1,a2,λo'=>(a3 o').mono (λp' vs' n1 _ _ _ e' => ?_) (VP λvs z=>by rw [hH]at z;cases z),a4⟩;rw [Zc (λz=>S.fd1 (by rw [<-z];exact n1))]
  exact e'
 let W:Nat->Nat->St->Hp->Prop:=λi m σ' H'=>i<=ks.length/\m=ks.length-i/\NK b [3,4,5] σ σ'/\H' fd=some (.frz ob (.dT kvs))/\Fl H1 H' fd lf ah F (edges F (ks.take i)) (ks.take i)
 refine⟨W,⟨ks.length,Nat.zero_le _,rfl,.refl,Zm,by simpa [edges]using S0⟩,λi m σ' H' ⟨w1,w2,w3,w4,w6⟩ => ?_⟩
 by_cases hi:i<ks.length
 · refine .inr ⟨⟨w4,by omega⟩,W (i+1) (ks.length-(i+1)),λσ2 H2 h=>⟨_,by omega,h⟩,λx H3 ⟨p,ka,k,y,e1,e2,e3,e4,e5⟩ => ?_⟩
   subst e4 e5
   have hk:k=ks[i]:=by
    have h1:(kvs.map (·.1))[i]? = some k:=by rw [List.getElem?_map,e1];rfl
    rw [B.keys,List.getElem?_eq_getElem hi]at h1;exact(Option.some.inj h1).symm
   obtain⟨pv,vsF,rfl,hsq,htr⟩:=B.vals i k y e1
   have hkn:k∉ks.take i:=λz=>by
    obtain⟨j,hj,e⟩:=List.mem_iff_getElem.mp z;rw [List.length_take]at hj;rw [List.getElem_take,hk]at e;exact List.pairwise_iff_getElem.mp B.nd j i (by omega) hi (by omega) e
   have w6':Fl H1 (upd H' p (.tup [.ref ka,.ref pv])) fd lf ah F (edges F (ks.take i)) (ks.take i):=w6.fresh e3;refine⟨p,[.ref ka,.ref pv],rfl,.of Zm,rfl,.ref ka,[.ref pv],rfl,.ref pv,[],rfl,rfl,?_⟩;obtain⟨kl',l1,l2,l3⟩:=w6'.left;have ekk:upd H' p (.tup [.ref ka,.ref pv]) ka=some (.tup (k.map kV)):=QZ e3 _ _ e2
   have hn2:Nm b ((σ'.set (b+3) (some (.ref ka))).set (b+4) (some (.ref pv))) [(4,.ref pv),(3,.ref ka),(0,.ref fd),(1,.ref lf),(2,.ref ah)]:=
    ((w3 [(0,.ref fd),(1,.ref lf),(2,.ref ah)] (by simp) hn).add (j:=3) (by simp) (by decide)).add (j:=4) (by simp) (by decide)
   refine⟨.ref pv,hn2.get (by simp),.inr ⟨pv,vsF,rfl,.inl (B.sq w6'.kp hsq),?_⟩⟩;refine⟨.ref lf,hn2.get (by simp),.ref ka,hn2.get (by simp),lf,_,rfl,.t l1 ekk ?_,?_⟩
   · have : kl'.length = i := by
      have:=congrArg List.length l2;rw [List.length_map,List.length_take]at this;omega
     rw [sizeLine_eq,this];have:=B.le;omega
   · rw [htr.1]
     have S2:=w6'.put (k:=k) l1 hkn;have ele:=ZcI (F:=F) (ks:=ks) (i+1);have etk:ks.take (i+1)=ks.take i++[k]:=by rw [List.take_succ_eq_append_getElem hi,hk]
     rw [etk,ZaF,List.length_append,List.length_map]at ele;refine ZgX (vsF:=vsF) (k:=k) (one:=ka) (pv:=pv) B S2 (hn2.sub λq hq=>by simp at hq ⊢;rcases hq with rfl|rfl|rfl<;>simp) ?_ hsq htr (by have:=B.le;omega) λσ3 H3 y1 y2 y3=>⟨hi,rfl,?_,?_,?_⟩
     · have : ka ≠ lf := fun z => by
        have h1:=l1;rw [<-z,ekk]at h1;cases h1
       rw [Zc this];exact ekk
     · exact((w3.trans (.set (j:=3) (by simp))).trans (.set (j:=4) (by simp))).trans (y1.wide (by simp))
     · rw [y2 fd S.fd1,Zc nfl,Zc (λz=>by rw [<-z,w4]at e3;cases e3)]
       exact w4
     · rw [etk,ZaF]
       exact y3
 · have hie:i=ks.length:=by omega
   subst hie;rw [List.take_length]at w6;refine .inl ⟨⟨w4,by omega⟩,fd,ob,kvs,w4,hNF,q σ' _ w3 Zm ?_⟩;obtain⟨kl,l1,l2,l3⟩:=w6.left;obtain⟨ka,a1,a2,a3,a4⟩:=w6.ahd;refine⟨λx u nx e=>by rw [Zc nx];exact w6.kp x u nx e,S.fd1,by rw [Zm];exact λz=>(by cases z),S.lf0,S.ah0,S.ne,⟨kl,by rw [Zc (Ne.symm nfl)];exact l1,l2,l3⟩,ka,by rw [Zc (Ne.symm nfa)];exact a1,a2,λo'=>(a3 o').mono (λp' vs' n1 _ _ _ e' => ?_) (VP λvs z=>by rw [w4]at z;cases z),a4⟩
   rw [Zc (λz=>S.fd1 (by rw [<-z];exact n1))];exact e'
end
end Lg
namespace Lg
open PySem PySem.Spec L2 DL Pl
section
variable{K:PySem.W.Frag}{b:Nat}{H1 HB:Hp}{fd lf ah:Addr}{F:Ky->List Ky}{ks:List Ky}{kvs ka:List (Ky×V)}
abbrev Zf6(K:PySem.W.Frag)(b:Nat):TS:=Zf4 λNF=>ZV (Qs (Zf2 NF (Zq b)) (ZG 0) (Vp (tOp rEq (UG (Zq 1) (Zq 0)) (tC (.int 0)))) (Zq 0) 1 [b+1]) (ZG (b+6))
theorem lv0(k:Ky):Lv F 0 k=decide ((F k).length=0):=by
 unfold Lv;show((F k).all (Sb F 0) && !false)=_;cases h:F k with
 |nil=>rfl
 |cons x l=>simp [Sb]
theorem ZgZ {σ:St} {D:Ends} (B:Bs K H1 fd F ks kvs) (hH:HB fd=some (.dT kvs)) (S:Fl H1 HB fd lf ah F (edges F ks) ks) (hn:Nm b σ [(0,.ref fd),(1,.ref lf)])
 (q:∀lp ys H',HB lp=none->H' lp=some (.lst ys)->(∀x,x≠lp->H' x=HB x)->TR HB ys (ks.filter (Lv F 0))->D.nx (σ.set (b+6) (some (.ref lp))) H'):Zf6 K b D σ HB:=by
 intro NF;refine⟨.ref fd,hn.get (j:=0) (by simp),fd,kvs,rfl,hH,λob hNF => ?_⟩;have nfl:fd≠lf:=λz=>S.fd1 (by rw [z];exact S.lf0)
 obtain⟨kl,l1,l2,l3⟩:=S.left;have kln:kvs.length=ks.length:=by rw [<-B.keys,List.length_map]
 have hb:blk 1 σ [b+1]=[none,some (.ref lf)]:=by
  have:=hn.get (j:=1) (v:=.ref lf) (by simp);show [none]++Vt σ [b+1]=_;unfold Vt;simp [this]
 let W:Nat->Nat->List V->Hp->Prop:=λi m ys H'=>i<=ks.length/\m=ks.length-i/\H'=upd HB fd (.frz ob (.dT kvs))/\TR HB ys ((ks.take i).filter (Lv F 0))
 refine⟨W,⟨ks.length,Nat.zero_le _,rfl,rfl,by simpa using TR.nil⟩,λi m ys H' ⟨w1,w2,w3,w4⟩ => ?_⟩;subst w3
 by_cases hi:i<ks.length
 · refine .inr ⟨⟨Zm,by omega⟩,λx H3 ⟨e0,kx,k,y,e1,e2,e3⟩ => ?_⟩
   subst e0 e2
   have hk:k=ks[i]:=by
    have h1:(kvs.map (·.1))[i]? = some k:=by rw [List.getElem?_map,e1];rfl
    rw [B.keys,List.getElem?_eq_getElem hi]at h1;exact(Option.some.inj h1).symm
   have hkm:k∈ks:=by rw [hk];exact List.getElem_mem hi
   have nkf:kx≠fd:=λz=>by rw [z,Zm]at e3;cases e3
   have e3':HB kx=some (.tup (k.map kV)):=by rw [Zc nkf]at e3;exact e3
   have l1':upd HB fd (.frz ob (.dT kvs)) lf=some (.dT kl):=by rw [Zc (Ne.symm nfl)];exact l1
   rw [hb]
   have hyl:ys.length<=i:=by
    rw [w4.1];refine Nat.le_trans (List.length_filter_le _ _) ?_;rw [List.length_take];exact Nat.min_le_left _ _
   have etk:(ks.take (i+1)).filter (Lv F 0)=(ks.take i).filter (Lv F 0)++(if Lv F 0 k=true then [k]else []):=by
    rw [List.take_succ_eq_append_getElem hi,List.filter_append,<-hk]
    congr 1
    cases h:Lv F 0 k<;>simp [h]
   refine⟨.ref lf,rfl,.ref kx,rfl,lf,.int (F k).length,rfl,?_,?_⟩
   · have:=DGet.t l1' e3
     rw [l3 k hkm]at this;exact this
   · refine⟨rfl,decide ((.int (F k).length:V) = .int 0),rfl,?_⟩
     have hd:decide ((.int (F k).length:V) = .int 0)=Lv F 0 k:=by
      rw [lv0]
      by_cases h:(F k).length=0
      · rw [decide_eq_true h,h];rfl
      · rw [decide_eq_false h,decide_eq_false]
        intro z;injection z with z
        omega
     rw [hd];dsimp only
     by_cases h:Lv F 0 k=true
     · rw [if_pos h]
       refine⟨.ref kx,rfl,by rw [sizeLine_eq];have:=B.le;omega,_,by omega,hi,rfl,rfl,?_⟩;rw [etk,if_pos h];exact w4.snoc e3'
     · rw [if_neg h]
       refine⟨_,by omega,hi,rfl,rfl,?_⟩;rw [etk,if_neg h,List.append_nil];exact w4
 · have hie:i=ks.length:=by omega
   subst hie;rw [List.take_length]at w4;refine .inl ⟨⟨Zm,by omega⟩,λp hp => ?_⟩;have npf:p≠fd:=λz=>by rw [z,Zm]at hp;cases hp
   have hp':HB p=none:=by rw [Zc npf]at hp;exact hp
   refine⟨fd,ob,kvs,by rw [Zc (Ne.symm npf),Zm],hNF,q p ys _ hp' (by rw [Zc npf,Zm]) (λx hx => ?_) w4⟩
   by_cases e:x=fd
   · rw [e,Zm,hH]
   · rw [Zc e,Zc hx,Zc e]
structure Wk(HB H:Hp)(lf:Addr)(ks:List Ky)(f:Ky->Nat):Prop where
 kp:∀x o,x≠lf->HB x=some o->H x=some o
 left:∃kl,H lf=some (.dT kl)/\kl.map (·.1)=ks/\∀k∈ks,Zz kl k=some (.int (f k))
abbrev Zkk(K:PySem.W.Frag)(b:Nat):TS:=ZS (UH (Zq (b+1)) (Zq (b+3)) (tOp (rI0 λi j => .int (i-j)) (UG (Zq (b+1)) (Zq (b+3))) (tC (.int 1))))
 (Qd (Vp (tOp rEq (UG (Zq (b+1)) (Zq (b+3))) (tC (.int 0)))) (X6 (tBM K "list" rAppend (Zq (b+9)) (Z0 (Zq (b+3)) tNil))) tNext)
theorem Zin {H:Hp} {σ:St} {D:Ends} {f:Ky->Nat} {ea a:Addr} {es:List V} {E:List Ky} {k:Ky} (S:Wk HB H lf ks f) (hn:Nm b σ [(1,.ref lf),(3,.ref a),(9,.ref ea)]) (hlb:HB lf≠none) (ha:HB a=some (.tup (k.map kV))) (hal:a≠lf) (hk:k∈ks) (hf:1<=f k)
 (he:H ea=some (.lst es)) (h0:HB ea=none) (ht:TR HB es E) (hl:ks.length<100000) (hel:E.length<100000)
 (q:∀H' es' E',(∀x,x≠lf->x≠ea->H' x=H x)->Wk HB H' lf ks (λx=>if x=k then f k-1 else f x)->H' ea=some (.lst es')->TR HB es' E'->E'=(if f k=1 then E++[k]else E)->D.nx σ H'):Zkk K b D σ H:=by
 obtain⟨kl,l1,l2,l3⟩:=S.left;have hak:=S.kp a _ hal ha;have nel:ea≠lf:=λz=>by rw [z,l1]at he;cases he
 have hkl:kl.length=ks.length:=by rw [<-l2,List.length_map]
 have g1:=DGet.t l1 hak;rw [l3 k hk]at g1;refine⟨.ref lf,hn.get (by simp),.ref a,hn.get (by simp),lf,_,rfl,g1,(f k:Int),1,rfl,rfl,.ref lf,hn.get (by simp),.ref a,hn.get (by simp),lf,_,rfl,.t l1 hak (by rw [sizeLine_eq,hkl];omega),?_⟩;have ev:((f k:Int)-1)=((f k-1:Nat):Int):=by omega
 dsimp only;rw [ev];have hak':upd H lf (.dT (ZF kl k (.int ((f k-1:Nat):Int)))) a=some (.tup (k.map kV)):=by rw [Zc hal];exact hak
 have g2:=DGet.t (H:=upd H lf (.dT (ZF kl k (.int ((f k-1:Nat):Int))))) (a:=lf) (b:=a) (k:=k) Zm hak';rw [UF,if_pos rfl]at g2
 have S':Wk HB (upd H lf (.dT (ZF kl k (.int ((f k-1:Nat):Int))))) lf ks (λx=>if x=k then f k-1 else f x):=by
  refine⟨λx o nx e=>by rw [Zc nx];exact S.kp x o nx e,_,Zm,by rw [Ze4 (by rw [l2];exact hk)];exact l2,λx hx => ?_⟩;rw [UF]
  by_cases e:x=k
  · rw [if_pos e,if_pos e]
  · rw [if_neg e,if_neg e];exact l3 x hx
 have he':upd H lf (.dT (ZF kl k (.int ((f k-1:Nat):Int)))) ea=some (.lst es):=by rw [Zc nel];exact he
 refine⟨.ref lf,hn.get (by simp),.ref a,hn.get (by simp),lf,_,rfl,g2,rfl,decide ((.int ((f k-1:Nat):Int):V) = .int 0),rfl,?_⟩
 have hd:decide ((.int ((f k-1:Nat):Int):V) = .int 0)=decide (f k=1):=by
  by_cases h:f k=1
  · rw [decide_eq_true h,h];rfl
  · rw [decide_eq_false h,decide_eq_false]
    intro z;injection z with z
    omega
 rw [hd];dsimp only
 by_cases h:f k=1
 · rw [decide_eq_true h,if_pos rfl]
   refine⟨.ref ea,hn.get (by simp),.inl ⟨rfl,es,.of he'⟩,.ref a,hn.get (by simp),ea,es,.ref a,rfl,rfl,he',by rw [ht.1,sizeLine_eq];omega,?_⟩;refine q _ (es++[.ref a]) (E++[k]) (λx n1 n2=>by rw [Zc n2,Zc n1]) ⟨λx o nx e => ?_,?_⟩ Zm (ht.snoc ha) (by rw [if_pos h])
   · rw [Zc (λz=>by rw [z,h0]at e;cases e)]
     exact S'.kp x o nx e
   · obtain⟨kl2,y1,y2,y3⟩:=S'.left
     exact⟨kl2,by rw [Zc (Ne.symm nel)];exact y1,y2,y3⟩
 · rw [decide_eq_false h,if_neg (by decide)]
   exact q _ es E (λx n1 n2=>by rw [Zc n1]) S' he' ht (by rw [if_neg h])
def EI(F:Ky->List Ky)(ks:List Ky)(j:Nat)(f:Ky->Nat)(E:List Ky):Prop:=E.Nodup/\∀x,x∈E ↔ x∈ks/\lc F j [] x≠0/\f x=0
theorem EI.step{j:Nat}{f:Ky->Nat}{E:List Ky}{k:Ky}(h:EI F ks j f E)(hk:k∈ks)(hf:1<=f k)(hl:lc F j [] k≠0):EI F ks j (λx=>if x=k then f k-1 else f x) (if f k=1 then E++[k]else E):=by
 have nk:k∉E:=λz=>by have:=((h.2 k).mp z).2.2;omega
 by_cases e:f k=1
 · rw [if_pos e]
   refine⟨List.nodup_append.mpr ⟨h.1,by simp,λa ha c hc z=>nk (by rw [<-List.mem_singleton.mp hc,<-z];exact ha)⟩,λx => ?_⟩;rw [List.mem_append,List.mem_singleton,h.2 x];dsimp only
   by_cases ex:x=k
   · subst ex
     rw [if_pos rfl];exact⟨λ_=>⟨hk,hl,by omega⟩,λ_ => .inr rfl⟩
   · rw [if_neg ex]
     exact⟨λz=>z.resolve_right ex,.inl⟩
 · rw [if_neg e]
   refine⟨h.1,λx => ?_⟩;rw [h.2 x];dsimp only
   by_cases ex:x=k
   · subst ex
     rw [if_pos rfl];exact⟨λz=>by have:=z.2.2;omega,λz=>by have:=z.2.2;omega⟩
   · rw [if_neg ex]
end
end Lg
namespace Lg
open PySem PySem.Spec L2 DL Pl
theorem nodup_le{α:Type} [DecidableEq α]:∀(l S:List α),l.Nodup->(∀x∈l,x∈S)->l.length<=S.length
 | [],_,_,_=>Nat.zero_le _
 |x::l,S,hn,hs=>by
  obtain⟨h1,h2⟩:=List.nodup_cons.mp hn;have hx:=hs x List.mem_cons_self;have:=nodup_le l (S.erase x) h2 λy hy=>(List.mem_erase_of_ne (λz=>h1 (by rw [<-z];exact hy))).mpr (hs y (List.mem_cons_of_mem _ hy))
  have e:=List.length_erase_of_mem hx;have:=List.length_pos_of_mem hx;rw [List.length_cons];omega
section
variable{K:PySem.W.Frag}{b:Nat}{H1 HB:Hp}{fd lf ah:Addr}{F:Ky->List Ky}{ks:List Ky}{kvs ka:List (Ky×V)}
structure Fx(K:PySem.W.Frag)(H1 HB:Hp)(fd lf ah:Addr)(F:Ky->List Ky)(ks:List Ky)(kvs ka:List (Ky×V)):Prop where
 bs:Bs K H1 fd F ks kvs
 hf:HB fd=some (.dT kvs)
 hl:∃kl,HB lf=some (.dT kl)
 ha:HB ah=some (.dT ka)
 nfl:fd≠lf
 nal:ah≠lf
 rows:∀o,Ah H1 HB lf ah (Pe (edges F ks) o) (Zz ka o)
theorem Wk.congr{H:Hp}{f g:Ky->Nat}(S:Wk HB H lf ks f)(h:∀k∈ks,f k=g k):Wk HB H lf ks g:=by
 obtain⟨kl,y1,y2,y3⟩:=S.left;exact⟨S.kp,kl,y1,y2,λk hk=>by rw [<-h k hk];exact y3 k hk⟩
theorem Wk.fresh{H:Hp}{f:Ky->Nat}{p:Addr}{o:HO}(S:Wk HB H lf ks f)(hp:H p=none)(hb:HB p=none):Wk HB (upd H p o) lf ks f:=by
 obtain⟨kl,y1,y2,y3⟩:=S.left;refine⟨λx u nx e => ?_,kl,?_,y2,y3⟩
 · rw [Zc (λz=>by rw [z,hb]at e;cases e)]
   exact S.kp x u nx e
 · rw [Zc (λz=>by rw [z,hp]at y1;cases y1)]
   exact y1
theorem EI.congr{j:Nat}{f g:Ky->Nat}{E:List Ky}(S:EI F ks j f E)(h:∀k∈ks,f k=g k):EI F ks j g E:=⟨S.1,λx=>by
 rw [S.2 x];exact⟨λz=>⟨z.1,z.2.1,by rw [<-h x z.1];exact z.2.2⟩,λz=>⟨z.1,z.2.1,by rw [h x z.1];exact z.2.2⟩⟩⟩
abbrev Zkl(K:PySem.W.Frag)(b:Nat):TS:=XI (Vu K (Zfn (Zq (b+2)) (Zq (b+5)) (Vq tNil))) (ZG (b+3)) (Zkk K b)
theorem Zjf(j:Nat)(Dn:List Ky)(k:Ky):lc F j Dn k<=lc F j [] k:=by
 unfold lc;refine List.countP_mono_left λo _ h => ?_
 simp at h ⊢;exact h.1
theorem Zio {H:Hp} {σ:St} {D:Ends} {j:Nat} {Dn E:List Ky} {es:List V} {ea oth:Addr} {o:Ky} (X:Fx K H1 HB fd lf ah F ks kvs ka) (S:Wk HB H lf ks (lc F j Dn)) (hn:Nm b σ [(1,.ref lf),(2,.ref ah),(5,.ref oth),(9,.ref ea)]) (ho:HB oth=some (.tup (o.map kV)))
 (hs:Sb F j o=false) (hd:o∉Dn) (he:H ea=some (.lst es)) (h0:HB ea=none) (ht:TR HB es E) (hE:EI F ks j (lc F j Dn) E)
 (q:∀σ' H' es' E',NK b [3] σ σ'->(∀x u,x≠lf->x≠ea->H x=some u->H' x=some u)->Wk HB H' lf ks (lc F j (Dn++[o]))->H' ea=some (.lst es')->TR HB es' E'->EI F ks j (lc F j (Dn++[o])) E'->D.nx σ' H'):Zkl K b D σ H:=by
 have hle:=X.bs.le;have nol:oth≠lf:=λz=>by obtain⟨kl,hl⟩:=X.hl;rw [z,hl]at ho;cases ho
 have hah:=S.kp ah _ X.nal X.ha;have hoH:=S.kp oth _ nol ho;refine⟨.ref ah,hn.get (by simp),ah,rfl,.inr ⟨ka,.inl hah⟩,.ref oth,hn.get (by simp),Nat.zero_le _,λp0 hp0 => ?_⟩;have nap:ah≠p0:=λz=>by rw [z,hp0]at hah;cases hah
 have nep:ea≠p0:=λz=>by rw [z,hp0]at he;cases he
 have hb0:HB p0=none:=by
  cases e:HB p0 with
  |none=>rfl
  |some u=>
   by_cases z:p0=lf
   · obtain⟨kl,y1,_⟩:=S.left
     rw [<-z,hp0]at y1;cases y1
   · have:=S.kp p0 u z e
     rw [hp0]at this;cases this
 have S0:Wk HB (upd H p0 (.lst [])) lf ks (lc F j Dn):=S.fresh hp0 hb0;have he0:upd H p0 (.lst []) ea=some (.lst es):=by rw [Zc nep];exact he
 have g:=DGet.t (H:=upd H p0 (.lst [])) (a:=ah) (b:=oth) (kvs:=ka) (k:=o) (by rw [Zc nap];exact hah) (QZ hp0 _ _ hoH);refine⟨_,g,?_⟩;have hcs:∀k∈ks,ct k (Pe (edges F ks) o)=ct o (F k):=λk hk=>Zcb X.bs.nd hk
 have hpm:∀k∈Pe (edges F ks) o,k∈ks:=λk hk=>(ZfE hk).1
 have eqf:∀k∈ks,lc F j Dn k-ct k (Pe (edges F ks) o)=lc F j (Dn++[o]) k:=λk hk=>by
  rw [hcs k hk,Zdr (F:=F) (k:=k) hs hd];omega
 obtain⟨p,vs,ev,hp,htr,hpe⟩:∃p vs,(Zz ka o).getD (.ref p0) = .ref p/\upd H p0 (.lst []) p=some (.lst vs)/\TR HB vs (Pe (edges F ks) o)/\(∀(H':Hp)(f:Ky->Nat),Wk HB H' lf ks f->0<(Pe (edges F ks) o).length->H' p=some (.lst vs)):=by
  have hr:=X.rows o;cases hv:Zz ka o with
  |none=>
   rw [hv]at hr;have hr:Pe (edges F ks) o=[]:=hr;exact⟨p0,[],rfl,Zm,by rw [hr];exact TR.nil,λ_ _ _ z=>by rw [hr]at z;cases z⟩
  |some v=>
   rw [hv]at hr;obtain⟨p,vs,rfl,h1,h2,h3,h4,h5⟩:=hr;have:=S.kp p _ h4 h1;exact⟨p,vs,rfl,by rw [Zc (λz=>by rw [z,hp0]at this;cases this)];exact this,h2,λH' f w _=>w.kp p _ h4 h1⟩
 rw [ev];generalize hQ:Pe (edges F ks) o=Q at *
 have hEl:∀(f:Ky->Nat)(E':List Ky),EI F ks j f E'->E'.length<100000:=λf E' h=>by
  have:=nodup_le E' ks h.1 λx hx=>((h.2 x).mp hx).1
  omega
 let W:Nat->Nat->St->Hp->Prop:=λi m σ' H'=>i<=Q.length/\m=Q.length-i/\NK b [3] σ σ'/\H' p=some (.lst vs)/\(∀x u,x≠lf->x≠ea->H x=some u->H' x=some u)/\Wk HB H' lf ks (λx=>lc F j Dn x-ct x (Q.take i))/\∃es' E',H' ea=some (.lst es')/\TR HB es' E'/\EI F ks j (λx=>lc F j Dn x-ct x (Q.take i)) E'
 refine .inl ⟨p,vs,rfl,.of hp,W,⟨Q.length,Nat.zero_le _,rfl,.refl,hp,(λx u _ _ e=>by rw [Zc (λz=>by rw [z,hp0]at e;cases e)];exact e),S0.congr λk _=>by simp [ct],es,E,he0,ht,hE.congr λk _=>by simp [ct]⟩,λi m σ' H' ⟨w1,w2,w3,w4,w4',w5,es',E',w6,w7,w8⟩ => ?_⟩
 by_cases hi:i<Q.length
 · obtain⟨ta,e1,e2⟩:=htr.at hi
   refine .inr ⟨⟨vs,.ref ta,.of w4,e1⟩,W (i+1) (Q.length-(i+1)),λσ2 H2 h=>⟨_,by omega,h⟩,λx H3 ⟨e3,e4⟩ => ?_⟩;subst e3
   have ex:x = .ref ta:=by
    have:=e4 vs (.of w4);rw [e1]at this;exact(Option.some.inj this).symm
   subst ex;have hkm:Q[i]∈ks:=hpm _ (List.getElem_mem hi);have ntl:ta≠lf:=λz=>by obtain⟨kl,hl⟩:=X.hl;rw [z,hl]at e2;cases e2
   have hlt:=ZaS hi;have hge:ct Q[i] Q<=lc F j Dn Q[i]:=by rw [hcs _ hkm,Zdr (F:=F) (k:=Q[i]) hs hd];omega
   have hn':Nm b (σ'.set (b+3) (some (.ref ta))) [(1,.ref lf),(3,.ref ta),(9,.ref ea)]:=
    ((w3 [(1,.ref lf),(9,.ref ea)] (by simp) (hn.sub (by simp))).add (j:=3) (v:=.ref ta) (by simp) (by decide)).sub (by simp)
   have hstep:∀y,(if y=Q[i]then lc F j Dn Q[i]-ct Q[i] (Q.take i)-1 else lc F j Dn y-ct y (Q.take i))=lc F j Dn y-ct y (Q.take (i+1)):=λy=>by
    rw [Zaw hi]
    by_cases e:y=Q[i]
    · rw [if_pos e,e,if_pos rfl];omega
    · rw [if_neg e,if_neg (Ne.symm e)];rfl
   refine Zin (E:=E') (es:=es') w5 hn' (by obtain⟨kl,hl⟩:=X.hl;rw [hl];exact λz=>by cases z) e2 ntl hkm (by omega) w6 h0 w7 (by omega) (hEl _ _ w8) λH4 es4 E4 y0 y1 y2 y3 y4 => ?_
   have y1':=y1.congr (g:=λx=>lc F j Dn x-ct x (Q.take (i+1))) λk _=>hstep k
   refine⟨hi,rfl,w3.trans (.set (by simp)),hpe H4 _ y1' (by omega),(λx u n1 n2 e=>(y0 x n1 n2).trans (w4' x u n1 n2 e)),y1',es4,E4,y2,y3,?_⟩;have z:=w8.step hkm (by omega) (by have:=Zjf (F:=F) j Dn Q[i];omega);rw [y4];exact z.congr λk _=>hstep k
 · have hie:i=Q.length:=by omega
   subst hie;rw [List.take_length]at w5 w8;exact .inl ⟨⟨vs,.of w4,by rw [htr.1];exact Nat.le_refl _⟩,q σ' H' es' E' w3 w4' (w5.congr eqf) w6 w7 (w8.congr eqf)⟩
end
end Lg
namespace Lg
open PySem PySem.Spec L2 DL Pl
section
variable{K:PySem.W.Frag}{b:Nat}{H1 HB:Hp}{fd lf ah:Addr}{F:Ky->List Ky}{ks:List Ky}{kvs ka:List (Ky×V)}
abbrev Zkm(K:PySem.W.Frag)(b:Nat):TS:=XI (Vu K (Zq (b+6))) (ZG (b+5)) (Zkl K b)
theorem Zip {H:Hp} {σ:St} {D:Ends} {j:Nat} {L:List Ky} {vsL:List V} {ea lp:Addr} (X:Fx K H1 HB fd lf ah F ks kvs ka) (S:Wk HB H lf ks (lc F j [])) (hn:Nm b σ [(1,.ref lf),(2,.ref ah),(6,.ref lp),(9,.ref ea)])
 (hlp:H lp=some (.lst vsL)) (nle:lp≠ea) (nll:lp≠lf) (ht:TR HB vsL L) (hL1:L.Nodup) (hL2:∀o,o∈L ↔ o∈ks/\Lv F j o=true) (he:H ea=some (.lst [])) (h0:HB ea=none)
 (q:∀σ' H' es' E',NK b [3,5] σ σ'->Wk HB H' lf ks (lc F (j+1) [])->H' ea=some (.lst es')->TR HB es' E'->E'.Nodup->(∀o,o∈E' ↔ o∈ks/\Lv F (j+1) o=true)->D.nx σ' H'):Zkm K b D σ H:=by
 refine⟨.ref lp,hn.get (by simp),.inl ⟨lp,vsL,rfl,.of hlp,?_⟩⟩
 let W:Nat->Nat->St->Hp->Prop:=λi m σ' H'=>i<=L.length/\m=L.length-i/\NK b [3,5] σ σ'/\H' lp=some (.lst vsL)/\Wk HB H' lf ks (lc F j (L.take i))/\∃es' E',H' ea=some (.lst es')/\TR HB es' E'/\EI F ks j (lc F j (L.take i)) E'
 refine⟨W,⟨L.length,Nat.zero_le _,rfl,.refl,hlp,by simpa using S,[],[],he,.nil,?_⟩,λi m σ' H' ⟨w1,w2,w3,w4,w5,es',E',w6,w7,w8⟩ => ?_⟩
 · exact⟨List.nodup_nil,λx=>by simp⟩
 by_cases hi:i<L.length
 · obtain⟨ta,e1,e2⟩:=ht.at hi
   refine .inr ⟨⟨vsL,.ref ta,.of w4,e1⟩,W (i+1) (L.length-(i+1)),λσ2 H2 h=>⟨_,by omega,h⟩,λx H3 ⟨e3,e4⟩ => ?_⟩;subst e3
   have ex:x = .ref ta:=by
    have:=e4 vsL (.of w4);rw [e1]at this;exact(Option.some.inj this).symm
   subst ex;have hm:=(hL2 L[i]).mp (List.getElem_mem hi)
   have hs:Sb F j L[i]=false:=by
    have:=hm.2;unfold Lv at this;rw [Bool.and_eq_true,Bool.not_eq_true']at this;exact this.2
   have hd:L[i]∉L.take i:=λz=>by
    obtain⟨a,ha,e⟩:=List.mem_iff_getElem.mp z;rw [List.length_take]at ha;rw [List.getElem_take]at e;exact List.pairwise_iff_getElem.mp hL1 a i (by omega) hi (by omega) e
   have hn':Nm b (σ'.set (b+5) (some (.ref ta))) [(1,.ref lf),(2,.ref ah),(5,.ref ta),(9,.ref ea)]:=
    ((w3 [(1,.ref lf),(2,.ref ah),(9,.ref ea)] (by simp) (hn.sub (by simp))).add (j:=5) (v:=.ref ta) (by simp) (by decide)).sub (by simp)
   refine Zio X w5 hn' e2 hs hd w6 h0 w7 w8 λσ4 H4 es4 E4 y0 y1 y2 y3 y4 y5=>⟨hi,rfl,(w3.trans (.set (j:=5) (by simp))).trans (y0.wide (by simp)),y1 lp _ nll nle w4,?_,es4,E4,y3,y4,?_⟩
   · rw [List.take_succ_eq_append_getElem hi];exact y2
   · rw [List.take_succ_eq_append_getElem hi];exact y5
 · have hie:i=L.length:=by omega
   subst hie;rw [List.take_length]at w5 w8;have ea2:∀k∈ks,lc F j L k=lc F (j+1) [] k:=λk hk=>Zim (X.bs.cl k hk) hL2
   refine .inl ⟨⟨vsL,.of w4,by rw [ht.1];exact Nat.le_refl _⟩,q σ' H' es' E' w3 (w5.congr ea2) w6 w7 w8.1 λo => ?_⟩;rw [(w8.congr ea2).2 o];unfold Lv;rw [Bool.and_eq_true,Bool.not_eq_true'];constructor
   · rintro⟨z1,z2,z3⟩
     refine⟨z1,lc_zero.mp z3,?_⟩;cases h:Sb F (j+1) o with
     |false=>rfl
     |true=>exact absurd (lc_zero.mpr h) z2
   · rintro⟨z1,z2,z3⟩
     exact⟨z1,λz=>(by rw [lc_zero.mp z]at z3;cases z3),lc_zero.mpr z2⟩
end
end Lg
namespace Lg
open PySem PySem.Spec L2 DL Pl
section
variable{K:PySem.W.Frag}{b:Nat}{H1 HB:Hp}{fd lf ah:Addr}{F:Ky->List Ky}{ks:List Ky}{kvs ka:List (Ky×V)}
abbrev Zkn(K:PySem.W.Frag)(i:Nat):TE:=tCB (UD K) (Z0 (Zq i) tNil)
abbrev tWh(K:PySem.W.Frag)(b:Nat):TS:=JB (Vp (tOp (rI0 λi j => .bl (decide (j<i))) (Zkn K (b+6)) (tC (.int 0))))
 (ZS (ZV (tOp (rI0 λi j => .int (i+j)) (Zq (b+7)) (tC (.int 1))) (ZG (b+7)))
 (ZS (ZV (tOp (rI0 λi j => .int (i+j)) (Zq (b+8)) (Zkn K (b+6))) (ZG (b+8)))
 (ZS (ZV (Vq tNil) (ZG (b+9))) (ZS (Zkm K b) (ZV (Zq (b+9)) (ZG (b+6)))))))
theorem Zg0{L:List Ky}{j:Nat}(hn:ks.Nodup)(h1:L.Nodup)(h2:∀o,o∈L ↔ o∈ks/\Lv F j o=true):L.length=(ks.filter (Lv F j)).length:=by
 have a:=nodup_le L (ks.filter (Lv F j)) h1 λx hx=>List.mem_filter.mpr ((h2 x).mp hx)
 have c:=nodup_le (ks.filter (Lv F j)) L (List.Pairwise.filter _ hn) λx hx=>(h2 x).mpr (List.mem_filter.mp hx)
 omega
theorem Zjg {H:Hp} {σ:St} {D:Ends} {L:List Ky} {lp:Addr} {vsL:List V} (X:Fx K H1 HB fd lf ah F ks kvs ka) (S:Wk HB H lf ks (lc F 0 [])) (hn:Nm b σ [(0,.ref fd),(1,.ref lf),(2,.ref ah),(6,.ref lp),(7,.int 0),(8,.int 0)])
 (hlp:H lp=some (.lst vsL)) (hl0:HB lp=none) (nll:lp≠lf) (ht:TR HB vsL L) (hL1:L.Nodup) (hL2:∀o,o∈L ↔ o∈ks/\Lv F 0 o=true)
 (q:∀σ' H' j,Nm b σ' [(0,.ref fd),(7,.int (j:Nat)),(8,.int (cnt F ks j:Nat))]->(∃f,Wk HB H' lf ks f)->kah F ks (ks.length+1) 0=(if cnt F ks j=ks.length then some j else none)->D.nx σ' H'):tWh K b D σ H:=by
 have c0:cnt F ks 0=0:=by
  unfold cnt;rw [List.length_eq_zero_iff,List.filter_eq_nil_iff];intro a _ z;cases z
 let W:Nat->St->Hp->Prop:=λm σ' H'=>∃j L lp vsL,Nm b σ' [(0,.ref fd),(1,.ref lf),(2,.ref ah),(6,.ref lp),(7,.int (j:Nat)),(8,.int (cnt F ks j:Nat))]/\Wk HB H' lf ks (lc F j [])/\H' lp=some (.lst vsL)/\HB lp=none/\lp≠lf/\TR HB vsL L/\L.Nodup/\(∀o,o∈L ↔ o∈ks/\Lv F j o=true)/\ks.length+1<=m+cnt F ks j/\kah F ks m j=kah F ks (ks.length+1) 0
 refine⟨W,⟨ks.length+1,0,L,lp,vsL,by rw [c0];exact hn,S,hlp,hl0,nll,ht,hL1,hL2,by rw [c0];exact Nat.le_refl _,rfl⟩,λm σ' H' ⟨j,L,lp,vsL,w1,w2,w3,w4,w5,w6,w7,w8,w9,w10⟩ => ?_⟩;have hle:=X.bs.le;have hcl:=cnt_le (F:=F) (ks:=ks) j;have hll:=Zg0 X.bs.nd w7 w8;have hcs:=cnt_succ (F:=F) (ks:=ks) j;obtain⟨m',rfl⟩:∃m',m=m'+1:=⟨m-1,by omega⟩
 refine⟨.ref lp,w1.get (by simp),.inr ⟨lp,vsL,rfl,.inl (.of w3),(vsL.length:Int),0,rfl,rfl,decide ((0:Int)<(vsL.length:Int)),rfl,?_⟩⟩;dsimp only;rw [show kah F ks (m'+1) j=(if ks.all (λk => !Lv F j k)then(if cnt F ks j=ks.length then some j else none)else kah F ks m' (j+1))from rfl]at w10
 by_cases hz:L=[]
 · have hv:vsL.length=0:=by rw [w6.1,hz];rfl
   rw [hv,if_neg (by decide)];refine q σ' H' j (w1.sub (by simp)) ⟨_,w2⟩ ?_;rw [<-w10,if_pos];rw [List.all_eq_true];intro k hk;cases h:Lv F j k with
   |false=>rfl
   |true=>
    have:=(w8 k).mpr ⟨hk,h⟩;rw [hz]at this;cases this
 · obtain⟨o1,ho1⟩:=List.exists_mem_of_ne_nil L hz
   have hpos:=List.length_pos_of_mem ho1;have hv:0<vsL.length:=by rw [w6.1];exact hpos
   rw [if_pos (by rw [decide_eq_true_eq];omega)]
   have hno:¬(ks.all (λk => !Lv F j k)=true):=λz=>by
    have:=List.all_eq_true.mp z o1 ((w8 o1).mp ho1).1;rw [((w8 o1).mp ho1).2]at this;cases this
   rw [if_neg hno]at w10;refine⟨W m',λσ2 H2 h=>⟨m',Nat.lt_succ_self _,h⟩,?_⟩;refine⟨.int (j:Nat),w1.get (by simp),(j:Int),1,rfl,rfl,?_⟩
   have n1:Nm b (σ'.set (b+7) (some (.int ((j:Int)+1)))) [(7,.int ((j+1:Nat):Int)),(0,.ref fd),(1,.ref lf),(2,.ref ah),(6,.ref lp),(8,.int (cnt F ks j:Nat))]:=by
    rw [show((j:Int)+1)=((j+1:Nat):Int) by push_cast;rfl];exact(w1.sub (by simp)).add (j:=7) (by simp) (by decide)
   refine⟨.int (cnt F ks j:Nat),n1.get (by simp),.ref lp,n1.get (by simp),.inr ⟨lp,vsL,rfl,.inl (.of w3),(cnt F ks j:Int),(vsL.length:Int),rfl,rfl,?_⟩⟩
   have n2:Nm b ((σ'.set (b+7) (some (.int ((j:Int)+1)))).set (b+8) (some (.int ((cnt F ks j:Int)+(vsL.length:Int))))) [(8,.int (cnt F ks (j+1):Nat)),(7,.int ((j+1:Nat):Int)),(0,.ref fd),(1,.ref lf),(2,.ref ah),(6,.ref lp)]:=by
    rw [show((cnt F ks j:Int)+(vsL.length:Int))=((cnt F ks (j+1):Nat):Int) by rw [hcs,w6.1,hll];push_cast;rfl];exact(n1.sub (by simp)).add (j:=8) (by simp) (by decide)
   refine⟨Nat.zero_le _,λea he0 => ?_⟩;have nle:lp≠ea:=λz=>by rw [z,he0]at w3;cases w3
   have hbe:HB ea=none:=by
    cases e:HB ea with
    |none=>rfl
    |some u=>
     by_cases z:ea=lf
     · obtain⟨kl,y1,_⟩:=w2.left
       rw [<-z,he0]at y1;cases y1
     · have:=w2.kp ea u z e
       rw [he0]at this;cases this
   have n3:=(n2.sub (l':=[(8,.int (cnt F ks (j+1):Nat)),(7,.int ((j+1:Nat):Int)),(0,.ref fd),(1,.ref lf),(2,.ref ah),(6,.ref lp)]) (by simp)).add (j:=9) (v:=.ref ea) (by simp) (by decide);refine Zip X (w2.fresh he0 hbe) (n3.sub (by simp)) (by rw [Zc nle];exact w3) nle w5 w6 w7 w8 Zm hbe λσ4 H4 es4 E4 y1 y2 y3 y4 y5 y6 => ?_
   have n4:=y1 [(9,.ref ea),(8,.int (cnt F ks (j+1):Nat)),(7,.int ((j+1:Nat):Int)),(0,.ref fd),(1,.ref lf),(2,.ref ah)] (by simp) (n3.sub (by simp));refine⟨.ref ea,n4.get (by simp),j+1,E4,ea,es4,?_,y2,y3,hbe,?_,y4,y5,y6,?_,w10⟩
   · exact((n4.sub (l':=[(8,.int (cnt F ks (j+1):Nat)),(7,.int ((j+1:Nat):Int)),(0,.ref fd),(1,.ref lf),(2,.ref ah)]) (by simp)).add (j:=6) (v:=.ref ea) (by simp) (by decide)).sub (by simp)
   · intro z
     obtain⟨kl,y,_⟩:=y2.left;rw [<-z,y3]at y;cases y
   · omega
end
end Lg
namespace Lg
open PySem PySem.Spec L2 DL Pl
def kysT:List D->Option (List Ky)
 | []=>some []
 |x::xs=>match YE x,kysT xs with
  |some k,some l=>some (k::l)
  |_,_=>none
def rowsT:List D->Option (List (List Ky))
 | []=>some []
 | .lst ds::xs=>match kysT ds,rowsT xs with
  |some a,some l=>some (a::l)
  |_,_=>none
 |_=>none
def Fo(ks:List Ky)(fss:List (List Ky))(k:Ky):List Ky:=(Xx k ks fss).getD []
def resD:Option Nat->D
 |some j => .int j
 |none => .non
open Classical in
noncomputable def longD:Option D->Option D
 |some (.dtt ks xs)=>match rowsT xs with
  |some fss=>if ks.Nodup/\ks.length=fss.length/\(∀k∈ks,∀o∈Fo ks fss k,o∈ks)/\ks.length+(edges (Fo ks fss) ks).length<100000 then some (resD (kah (Fo ks fss) ks (ks.length+1) 0))else none
  |none=>none
 |_=>none
theorem Zdt{cA:Kn}{av:Addr->Prop}{H:Hp}:∀{ds:List D}{L:List Ky}{vs:List V},kysT ds=some L->RepL cA av H ds vs->TR H vs L
 | [],L,vs,h,l=>by cases h;rw [l.nil_of];exact TR.nil
 |x::xs,L,vs,h,l=>by
  obtain⟨v,r,rfl,h1,h2⟩:=l.uncons;unfold kysT at h;cases hk:YE x with
  |none=>rw [hk]at h;cases h
  |some k=>
   cases hks:kysT xs with
   |none=>rw [hk,hks]at h;cases h
   |some l'=>
    rw [hk,hks]at h;cases h;obtain⟨a,rfl,ha⟩:=QR hk h1;have ih:=Zdt hks h2;refine⟨by simp [ih.1],λi v k' e1 e2 => ?_⟩;cases i with
    |zero=>cases e1;cases e2;exact⟨a,rfl,ha⟩
    |succ i=>exact ih.2 i v k' e1 e2
theorem Zcc{cA:Kn}{av:Addr->Prop}{H:Hp}:∀{xs:List D}{fss:List (List Ky)}{vs:List V},rowsT xs=some fss->RepL cA av H xs vs->xs.length=fss.length/\∀(i:Nat)(v:V)(f:List Ky),vs[i]? = some v->fss[i]? = some f->∃p ws,v = .ref p/\SqL cA.K H p ws/\TR H ws f
 | [],fss,vs,h,l=>by cases h;exact⟨rfl,λi v f e=>by rw [l.nil_of]at e;simp at e⟩
 |x::xs,fss,vs,h,l=>by
  obtain⟨v,r,rfl,h1,h2⟩:=l.uncons;cases x<;>first|(cases h;done)|skip
  rename_i ds;unfold rowsT at h;cases hk:kysT ds with
  |none=>rw [hk]at h;cases h
  |some k=>
   cases hks:rowsT xs with
   |none=>rw [hk,hks]at h;cases h
   |some l'=>
    rw [hk,hks]at h;cases h;obtain⟨p,ws,rfl,_,sq,lw⟩:=h1;obtain⟨e0,ih⟩:=Zcc hks h2;refine⟨by simp [e0],λi v f e1 e2 => ?_⟩;cases i with
    |zero=>cases e1;cases e2;exact⟨p,ws,rfl,sq,Zdt hk lw⟩
    |succ i=>exact ih i v f e1 e2
theorem Zdu{α:Type}:∀{ks:List Ky}{fs:List α}{i:Nat}{k:Ky}{f:α},ks.Nodup->ks[i]? = some k->fs[i]? = some f->Xx k ks fs=some f
 | [],_,i,k,f,_,h,_=>by simp at h
 |k0::ks,[],i,k,f,_,_,h=>by simp at h
 |k0::ks,g::fs,i,k,f,hn,h1,h2=>by
  unfold Xx;obtain⟨n1,n2⟩:=List.nodup_cons.mp hn;cases i with
  |zero=>cases h1;cases h2;rw [if_pos rfl]
  |succ i=>
   have h1':ks[i]? = some k:=by simpa using h1
   rw [if_neg (λz=>n1 (by rw [z];exact List.mem_of_getElem? h1'))];exact Zdu n2 h1' (by simpa using h2)
section
variable{K:PySem.W.Frag}{b:Nat}{H1 HB:Hp}{fd lf ah:Addr}{F:Ky->List Ky}{ks:List Ky}{kvs ka:List (Ky×V)}
abbrev Zjh(K:PySem.W.Frag)(sp:Sp)(E:XK)(b:Nat):TS:=ZS (ZV (Qn sp [] E (Z0 (Zq 0) (Z0 (Zq 1) tNil))) (ZG b)) (ZS (ZV tDNewT (ZG (b+1))) (ZS (ZV tDNewT (ZG (b+2))) (ZS (Zf5 K b) (ZS (Zf6 K b)
 (ZS (ZV (tC (.int 0)) (ZG (b+7))) (ZS (ZV (tC (.int 0)) (ZG (b+8))) (ZS (tWh K b) (V1 (tIf (Vp (tOp rEq (Zq (b+8)) (tCB (UW K) (Z0 (Zq b) tNil)))) (Zq (b+7)) (tC .non))))))))))
theorem Zeh{D:Ends}{σ:St}(B:Bs K H1 fd F ks kvs)(hb:b+10<=σ.length)(q:∀H',Same H1 H'->∀v:V,(v=match kah F ks (ks.length+1) 0 with|some j=>V.int (j:Nat)|none=>V.non)->D.rt v H') :
 ZS (ZV tDNewT (ZG (b+1))) (ZS (ZV tDNewT (ZG (b+2))) (ZS (Zf5 K b) (ZS (Zf6 K b) (ZS (ZV (tC (.int 0)) (ZG (b+7))) (ZS (ZV (tC (.int 0)) (ZG (b+8))) (ZS (tWh K b) (V1 (tIf (Vp (tOp rEq (Zq (b+8)) (tCB (UW K) (Z0 (Zq b) tNil)))) (Zq (b+7)) (tC .non))))))))) D (σ.set b (some (.ref fd))) H1:=by
 have n0:Nm b (σ.set b (some (.ref fd))) [(0,.ref fd)]:=⟨by rw [List.length_set];exact hb,λp hp=>by
  rw [List.mem_singleton.mp hp];exact List.getElem?_set_self (by omega)⟩
 intro lf hlf;have n1:=n0.add (j:=1) (v:=.ref lf) (by simp) (by decide);intro ah hah;have n2:=n1.add (j:=2) (v:=.ref ah) (by simp) (by decide);have nla:lf≠ah:=λz=>by rw [z,Zm]at hah;cases hah
 have nfl:fd≠lf:=λz=>by have:=B.top;rw [z,hlf]at this;cases this
 have hah1:H1 ah=none:=by rw [Zc (Ne.symm nla)]at hah;exact hah
 have nfa:fd≠ah:=λz=>by have:=B.top;rw [z,hah1]at this;cases this
 have hfd:upd (upd H1 lf (.dT [])) ah (.dT []) fd=some (.dT kvs):=by rw [Zc nfa,Zc nfl];exact B.top
 have S:Fl H1 (upd (upd H1 lf (.dT [])) ah (.dT [])) fd lf ah F [] []:=by
  refine⟨λx u nx e => ?_,by rw [B.top];exact λz=>(by cases z),by rw [hfd];exact λz=>(by cases z),hlf,hah1,nla,⟨[],by rw [Zc nla,Zm],rfl,λk hk=>by cases hk⟩,[],Zm,Nat.le_refl _,λo=>rfl,λo o' p z=>by cases z⟩;rw [Zc (λz=>by rw [z,hah1]at e;cases e),Zc (λz=>by rw [z,hlf]at e;cases e)];exact e
 refine ZgY B hfd S (n2.sub (by simp)) λσ3 H3 y1 y2 y3 => ?_
 have n3:=y1 [(0,.ref fd),(1,.ref lf),(2,.ref ah)] (by simp) (n2.sub (by simp));refine ZgZ B y2 y3 (n3.sub (by simp)) λlp ys H4 z1 z2 z3 z4 => ?_
 have n4:=n3.add (j:=6) (v:=.ref lp) (by simp) (by decide);have n5:=n4.add (j:=7) (v:=.int 0) (by simp) (by decide);have n6:=n5.add (j:=8) (v:=.int 0) (by simp) (by decide);obtain⟨kl,l1,l2,l3⟩:=y3.left;obtain⟨ka,a1,a2,a3,a4⟩:=y3.ahd;have X:Fx K H1 H3 fd lf ah F ks kvs ka:=⟨B,y2,⟨kl,l1⟩,a1,nfl,Ne.symm nla,a3⟩
 have nll:lp≠lf:=λz=>by rw [z,l1]at z1;cases z1
 have W0:Wk H3 H4 lf ks (lc F 0 []):=by
  refine⟨λx o nx e => ?_,kl,by rw [z3 lf (Ne.symm nll)];exact l1,l2,λk hk=>by rw [Ze3];exact l3 k hk⟩;rw [z3 x (λz=>by rw [z,z1]at e;cases e)];exact e
 refine Zjg (L:=ks.filter (Lv F 0)) X W0 (n6.sub (by simp)) z2 z1 nll z4 (List.Pairwise.filter _ B.nd) (λo=>by rw [List.mem_filter]) λσ7 H7 j w1 ⟨f,w2⟩ w3 => ?_
 have hs:Same H1 H7:=λx o e=>by
  have nx:x≠lf:=λz=>by rw [z,hlf]at e;cases e
  refine w2.kp x o nx ?_
  by_cases ef:x=fd
  · rw [ef,y2,<-B.top,<-ef];exact e
  · exact y3.kp x o ef e
 have kln:kvs.length=ks.length:=by rw [<-B.keys,List.length_map]
 refine⟨.int (cnt F ks j:Nat),w1.get (by simp),.ref fd,w1.get (j:=0) (by simp),fd,kvs,rfl,.inl (w2.kp fd _ nfl y2),rfl,decide ((.int (cnt F ks j:Nat):V) = .int (kvs.length:Nat)),rfl,?_⟩;dsimp only
 by_cases h:cnt F ks j=ks.length
 · rw [if_pos (by rw [decide_eq_true_eq,h,kln])]
   refine⟨.int (j:Nat),w1.get (by simp),q H7 hs _ ?_⟩;rw [w3,if_pos h]
 · rw [if_neg (by
    rw [decide_eq_true_eq,kln];intro z;injection z with z
    omega)]
   refine q H7 hs _ ?_;rw [w3,if_neg h]
end
end Lg
namespace Lg
open PySem PySem.Spec L2 DL Pl
theorem Zdv{α β:Type}:∀{a:List α}{c:List β},a.length=c.length->(a.zip c).map (·.1)=a
 | [],_,_=>by simp
 |x::a,[],h=>by simp at h
 |x::a,y::c,h=>by rw [List.zip_cons_cons,List.map_cons,Zdv (by simpa using h)]
theorem fn_L {P:Program} {w:World} {K:PySem.W.Frag} {mg:Str->Option Value} {base:Heap} {x qual q2:Str} {st:Stmt} {f p c:Addr} {fd:FuncData} {N ps:List Str} {k:Nat} {vc:List V} {body:List Stmt} {scope:Scope} {mA:List D->Option D} {cA:Kn} {b:Nat}
 (F:FunX K x qual st f fd) (S:FnScope N ps (defScope st)) (hS:defScope st=scope) (hB:defBody st=body) (hnp:ps.length=2) (hvN:2+vc.length+10<=N.length) (hhid:∀i y,2<=i->i<2+vc.length->N[i]? = some y->¬Vis scope y)
 (hbody:∀(cdv:Value)(A:Around)(outer:List PySem.Env)(s:Shared)(H:Hp)(E:XK)(oc:Obj),H c=some (.frz oc (.cod q2))->Room k (A.deeper (PyProof.Rows.envOfC qual scope s.heap.objs.size f cdv)) ->
   ∃E',PSs (Yg CX0 P w K mg base N qual scope f cdv A outer s H E).nox body (Zjh K (spF cA p c q2 vc 1 1 mA) E' b)) (hb:2+vc.length=b:=by rfl) (hK:cA.K=K:=by rfl) :
 FnOk P w K mg base CX0 (k+1) f fd ps (spF cA p c q2 vc 1 1 λds=>longD (mA ds)):=by
 subst hS hB hK hb;obtain⟨oc,od,dV,kV,doc,pm,an,cdv,ct,osl,rfl,lk,hcd⟩:=F.ex;refine ZfB lk hcd S (λvs H Q E h => ?_) λA outer s H vs Q E hr h => ?_
 · obtain⟨av,ds,ws,cs,d,_,e,r,h1,_⟩:=h
   rw [e,Xy,<-r.length,h1,hnp]
 · obtain⟨av,ds,ws,cs,d,ha,e,r,h1,rc,⟨oc',hoc⟩,hm,q⟩:=h
   obtain⟨E',ht⟩:=hbody cdv A outer s H E oc' hoc hr;have hwl:=r.length;have hcl:=rc.length
   obtain⟨v0,rfl⟩:∃v0,ws=[v0]:=by
    cases ws with
    |nil=>rw [h1]at hwl;cases hwl
    |cons v0 ws=>
     cases ws with
     |nil=>exact⟨v0,rfl⟩
     |cons _ _=>rw [h1]at hwl;simp at hwl
   have e:vs=[v0,.ref p]:=e;subst e;refine⟨_,[some v0,some (.ref p)]++vc.map some++List.replicate (N.length-(2+vc.length)) none,ht.nox,?_,λi v hi => ?_,?_⟩
   · rw [List.length_append,List.length_append,List.length_map,List.length_replicate]
     show 2+vc.length+(N.length-(2+vc.length))=N.length;omega
   · by_cases h2:i<2
     · left
       unfold L2.start;have:i=0\/i=1:=by omega
       rcases this with rfl|rfl
       · exact hi
       · exact hi
     · right
       have hb:i<2+vc.length:=by
        by_cases hb:i<([some v0,some (V.ref p)]++vc.map some).length
        · rw [List.length_append,List.length_map]at hb
          exact hb
        · rw [List.getElem?_append_right (by omega),List.getElem?_replicate]at hi
          split at hi<;>cases hi
       have hiN:i<N.length:=by omega
       exact⟨N[i],List.getElem?_eq_getElem hiN,hhid i _ (by omega) hb (List.getElem?_eq_getElem hiN)⟩
   · have e0:([some v0,some (V.ref p)]++vc.map some++List.replicate (N.length-(2+vc.length)) none)[0]? = some (some v0):=rfl
     have e1:([some v0,some (V.ref p)]++vc.map some++List.replicate (N.length-(2+vc.length)) none)[1]? = some (some (V.ref p)):=rfl
     have el:2+vc.length+10<=([some v0,some (V.ref p)]++vc.map some++List.replicate (N.length-(2+vc.length)) none).length:=by
      rw [List.length_append,List.length_append,List.length_map,List.length_replicate];show _<=2+vc.length+(N.length-(2+vc.length))
      omega
     generalize [some v0,some (V.ref p)]++vc.map some++List.replicate (N.length-(2+vc.length)) none=σ at e0 e1 el;refine⟨v0,e0,.ref p,e1,?_⟩;replace hm:longD (mA (ds++cs))=some d:=hm;unfold longD at hm
     split at hm
     · rename_i ks xs hA
       split at hm
       · rename_i fss hfs
         by_cases hz:ks.Nodup/\ks.length=fss.length/\(∀k∈ks,∀o∈Fo ks fss k,o∈ks)/\ks.length+(edges (Fo ks fss) ks).length<100000
         · rw [if_pos hz]at hm
           cases hm;refine⟨av,ds,[v0],cs,.dtt ks xs,ha,rfl,r,h1,rc,⟨oc',hoc⟩,hA,λv H1 s1 r1 => ?_⟩;obtain⟨fdd,vs,rfl,_,hH,hkx,l⟩:=r1;obtain⟨g1,g2⟩:=Zcc hfs l;have hvl:=l.length;have hkv:ks.length=vs.length:=by omega
           have B:Bs cA.K H1 fdd (Fo ks fss) ks (ks.zip vs):=by
            refine⟨Zdv hkv,hz.1,λi k v e => ?_,hH,hz.2.2.1,hz.2.2.2⟩;have h3:i<(ks.zip vs).length:=(List.getElem?_eq_some_iff.mp e).1;rw [List.length_zip]at h3
            have hk1:ks[i]? = some k:=by
             rw [List.getElem?_eq_getElem (by omega)];rw [List.getElem?_eq_getElem (by rw [List.length_zip];omega),List.getElem_zip]at e;exact congrArg some (Prod.mk.inj (Option.some.inj e)).1
            have hv1:vs[i]? = some v:=by
             rw [List.getElem?_eq_getElem (by omega)];rw [List.getElem?_eq_getElem (by rw [List.length_zip];omega),List.getElem_zip]at e;exact congrArg some (Prod.mk.inj (Option.some.inj e)).2
            have hf1:fss[i]? = some fss[i]:=List.getElem?_eq_getElem (by omega);obtain⟨pp,ws,y1,y2,y3⟩:=g2 i v _ hv1 hf1;refine⟨pp,ws,y1,y2,?_⟩;unfold Fo;rw [Zdu hz.1 hk1 hf1];exact y3
           refine Zeh B el λH' s2 v hv => ?_
           refine q v H' (s1.trans s2) ?_;rw [hv];cases kah (Fo ks fss) ks (ks.length+1) 0 with
           |none=>exact rfl
           |some j=>exact rfl
         · rw [if_neg hz]at hm;cases hm
       · cases hm
     · cases hm
theorem cap1{h:Heap}{cl:List (Str×Addr)}{x:Str}{vc:List V}(C:Caps h cl [x] vc):∃v1,vc=[v1]:=by
 have:=C.len
 match vc,this with
 | [a],_=>exact⟨a,rfl⟩
theorem inj1{a:Str}{m:Addr}:∀x y c,([(a,m)]:List (Str×Addr)).lookup x=some c->([(a,m)]:List (Str×Addr)).lookup y=some c->x=y:=λx y c h1 h2=>by
 have m1:=PySem.mem_of_lookup h1;have m2:=PySem.mem_of_lookup h2;simp only [List.mem_cons,List.mem_nil_iff,or_false,Prod.mk.injEq]at m1 m2;rw [m1.1,m2.1]
end Lg
namespace L2
open PySem PySem.Spec PyProof.Rows
theorem Zax (l:Addr) (items:Array Value) (n:Nat) (b:Addr) (ob:Obj) (items2:Array Value) (n2:Nat) (hcl:ob.cls = .type "list") (hdt:ob.data = .seq items2 n2) (hc0:¬(!items.isEmpty&&Builtin.List.listTooLong (items.size+items2.size))=true) (hc1:items.size<=sizeLine) (hs2:items.size+items2.size<=sizeLine+1) :
 Meets (Builtin.«list.extend» ⟨[.ref l,.ref b],[]⟩) (λ_ R s=>s.heap.get? l=some { cls := .type "list",dict:=none,data := .seq items n,slots := #[] }/\s.heap.get? b=some ob/\R (.ok (.ret Value.none)) { s with heap:=s.heap.update l (Obj.mapSeq λx=>x++items2),toks:=s.toks }):=
 .of_wp λprog w A R s h=>by
  obtain⟨c,d0,dt,sl⟩:=ob;dsimp only at hcl hdt;subst hcl hdt;obtain⟨hp,g,d,tk,os⟩:=s;obtain⟨hl,hb,h⟩:=h;have f1:=AutoSeq1.idx_int;have f2:=AutoSeq1.sub_tuple_tuple;have f3:=AutoSeq1.sub_list_list;have f4:=AutoSeq1.sub_tuple_list;have f5:=AutoSeq1.sub_list_tuple;have hz':(items++items2).size<=sizeLine+1:=by rw [Array.size_append];exact hs2
  wp_walk using(wpAny_updateSeq hl rfl (hz:=hc1) (_hz':=hz')),AutoSeq1.wpAny_loadPart' hl,AutoSeq1.wpAny_loadPart' hb;exact⟨_,rfl,h⟩
def ZhG(K:PySem.W.Frag):V->List V->Hp->VK->Prop:=λx vs H Q=>∃l b xs zs,x = .ref l/\vs=[.ref b]/\H l=some (.lst xs)/\SqL K H b zs/\xs.length+zs.length<=sizeLine/\Q .non (upd H l (.lst (xs++zs)))
theorem Zg1{X:Cx}:MtM X "list.extend" (ZhG X.K):=by
 intro pins s σ H x vs v us Q I rx rv h;obtain⟨l,b,xs,zs,rfl,rfl,hH,hB,hz,q⟩:=h;cases rx;obtain⟨u,rfl,ru⟩:=rv.one;cases ru;obtain⟨z,its,n,r,hl,e⟩:=I.lstM hH;obtain⟨its2,r2,⟨ob,n2,e2,c2,_,d2⟩,z2⟩:=I.list hB;have hl2:=r2.length;have hsz:its.toArray.size+its2.toArray.size<=sizeLine:=by rw [List.size_toArray,List.size_toArray];omega
 have hlong:¬(!its.toArray.isEmpty&&Builtin.List.listTooLong (its.toArray.size+its2.toArray.size))=true:=by
  rw [JQ hsz,Bool.and_false];exact Bool.false_ne_true
 refine call_meets F.slot_list_extend ⟨_,e,rfl⟩ F.entry_list_extend (F.args_list_extend_2 _ _)
  (Zax l its.toArray n b ob its2.toArray n2 c2 d2 hlong (by rw [List.size_toArray];omega) (by omega)) ⟨e,e2,?_⟩
 refine⟨.non,_,I.lset (its':=its++its2) hH e (by simp) (r.append r2) ?_,rfl,q⟩;rw [List.length_append];omega
end L2
namespace DL
open PySem PySem.Spec L2
section
variable{cA:Kn}{G:Cn}{ow owN owB owC ow1:List Nat}
theorem Zg2{te:TE}{ε:Env->Option D}(i:Nat)(hi:ow.contains i=true)(h:VE G ow te .cl ε):VS G ow ow owB owC (X6 (tBM G.1.K "list" (ZhG G.1.K) (Zq i) (Z0 te tNil))) (Xd i ε):=λH0 av A σ H δ E o e De k=>by
 unfold Xd at e
 split at e
 · rename_i xs ys hv he
   by_cases hz:xs.length+ys.length<=sizeLine
   · rw [if_pos hz]at e
     cases e;have hi':i∈ow:=by simpa using hi
     cases hA:A i with
     |none=>exact absurd hA (E.dom' i hi')
     |some a=>
      obtain⟨v,g1,_,g3⟩:=E.var i _ (ZT hv);obtain⟨rfl,ws,q1,q2⟩:=g3 a hA;refine⟨_,g1,.inl ⟨rfl,ws,SqL.of q1⟩,h H0 av A σ H δ E _ he _ λv H1 s1 rv => ?_⟩;have rv:RepT G.1 (AV av A) (AV av A) H1 (.lst ys) v:=rv;obtain⟨b,zs,rfl,nb,sq,l⟩:=rv;have E2:=E.mono s1;have q1':=s1 _ _ q1;have l2:=q2.same s1;refine⟨a,b,ws,zs,rfl,rfl,q1',sq,by rw [<-q2.length,<-l.length];exact hz,k A σ _ (E2.put hA (ZT hv) (λb o hb e=>by rw [Zc hb];exact e) (by rw [Zm];exact λz=>by cases z) ⟨_,Zm,?_⟩)⟩
      exact(l2.append l).ext λb o n e=>by
       rw [Zc λz=>n (.inr ⟨i,by rw [z];exact hA⟩)];exact e
   · rw [if_neg hz]at e;cases e
 · cases e
end
end DL
namespace PySem
section
variable{prog:Program}{w:World}{A:Around}{E:Value->Shared->Prop}{s:Shared}{pk qk:Bool}
theorem ZcJ {z TI TO i1 i2 l1 l2 T:Addr} {bb:Bool} {o:Obj} {k1 k2:Nat} {xs ys:Array Value} {x y:Value} {Q:Value->Shared->Prop} (D:ZipApart z TI TO i1 i2 l1 l2)
 (hz:Vh s.heap z TI TO (rawInt T) (.bool bb)) (hT:s.heap.get? T=some o) (hTI:IsPair s.heap TI (.ref i1) (.ref i2))
 (h1:IsQI pk s.heap i1 l1 k1) (h2:IsQI qk s.heap i2 l2 k2) (hl1:IsQ pk s.heap l1 xs) (hl2:IsQ qk s.heap l2 ys) (hx:xs[k1]? = some x) (hy:ys[k2]? = some y)
 (hQ:∀h' b',Vh h' z TI TO (rawInt T) (.bool b')->IsQI pk h' i1 l1 (k1+1)->IsQI qk h' i2 l2 (k2+1)->IsPair h' s.heap.objs.size x y->h'.objs.size=s.heap.objs.size+1 ->
   (∀c o,c≠z->c≠i1->c≠i2->s.heap.get? c=some o->h'.get? c=some o)->Q (.ref s.heap.objs.size) { s with heap:=h' }) :
 wpAny (model prog w) A (Builtin.«zip.__next__» ⟨[.ref z],[]⟩) (λfin s'=>∃v,fin = .done (.ret v)/\Q v s') E s:=by
 show wpAny _ _ (field (.ref z) 2 >>= _) _ _ _;refine wpAny_bind (wpAny_field hz rfl (x:=.bool false) rfl ?_);show wpAny _ _ (field (.ref z) 3 >>= _) _ _ _;refine wpAny_bind (wpAny_field hz rfl (x:=.ref TI) rfl ?_);refine wpAny_bind (wpAny_seqItems hTI rfl ?_);show wpAny _ _ (Builtin.SmallTypes.ownedTupleIsFree (.ref z) >>= _) _ _ _;refine wpAny_bind (Zab hz hT λh₀ b₀ hz₀ hs₀ => ?_);simp only [Bool.false_eq_true,if_false]
 simp only [List.forIn_toArray,List.forIn_cons,List.forIn_nil];refine wpAny_bind (wpAny_bind (wpAny_bind (wpAny_holding ?_)));show wpAny _ _ (Builtin.SmallTypes.nextOf (.ref i1) >>= _) _ _ _;refine wpAny_bind (Uj (h1.ext hs₀.extBut D.i1z) (hl1.ext hs₀.extBut D.l1z) hx λh₁ h1₁ hs₁=>wpAny_pure (wpAny_pure ?_));refine wpAny_bind (wpAny_bind (wpAny_holding ?_));show wpAny _ _ (Builtin.SmallTypes.nextOf (.ref i2) >>= _) _ _ _
 refine wpAny_bind (Uj ((h2.ext hs₀.extBut D.i2z).ext hs₁.extBut D.i12.symm) ((hl2.ext hs₀.extBut D.l2z).ext hs₁.extBut D.l2i1) hy λh₂ h2₂ hs₂=>wpAny_pure (wpAny_pure (wpAny_pure ?_)));refine wpAny_bind (wpAny_newTuple (hsz:=by show 2<=sizeLine;decide) ?_);have hsz:h₂.objs.size=s.heap.objs.size:=by rw [hs₂.1,hs₁.1,hs₀.1]
 have hz₂:Vh h₂ z TI TO (rawInt T) (.bool b₀):=hs₂.extBut _ _ D.i2z.symm (hs₁.extBut _ _ D.i1z.symm hz₀);have up:∀c o,h₂.get? c=some o->(h₂.push { cls := .type "tuple",data := .seq #[x,y] }).get? c=some o:=λc o e=>Heap.get?_push_of_some _ e
 refine wpAny_pure ⟨_,rfl,?_⟩;show Q (.ref h₂.objs.size) _;have hp:IsPair (h₂.push { cls := .type "tuple",data := .seq #[x,y] }) h₂.objs.size x y:=Heap.get?_push_size _ rfl;rw [hsz]at hp ⊢;refine hQ _ b₀ (up _ _ hz₂) ((h1₁.ext hs₂.extBut D.i12).at λo e=>up _ o e) (h2₂.at λo e=>up _ o e) hp (by rw [Heap.size_push,hsz]) λc o c1 c3 c4 e=>up c o (hs₂.extBut _ _ c4 (hs₁.extBut _ _ c3 (hs₀.extBut _ _ c1 e)))
theorem Zei {z TI TO i1 i2 l1 l2 T:Addr} {bb:Bool} {o:Obj} {k1 k2:Nat} {xs ys:Array Value} {Q:Fin->Shared->Prop} (hh:A.handled=none) (D:ZipApart z TI TO i1 i2 l1 l2)
 (hz:Vh s.heap z TI TO (rawInt T) (.bool bb)) (hT:s.heap.get? T=some o) (hTI:IsPair s.heap TI (.ref i1) (.ref i2))
 (h1:IsQI pk s.heap i1 l1 k1) (h2:IsQI qk s.heap i2 l2 k2) (hl1:IsQ pk s.heap l1 xs) (hl2:IsQ qk s.heap l2 ys) (hend:xs[k1]? = none\/ys[k2]? = none)
 (hE:∀h' e,(∀c o,c≠z->c≠TO->c≠i1->c≠i2->s.heap.get? c=some o->h'.get? c=some o)->(∃o,h'.get? e=some o/\o.cls = .type "StopIteration")->E (.ref e) { s with heap:=h' }) :
 wpAny (model prog w) A (Builtin.«zip.__next__» ⟨[.ref z],[]⟩) Q E s:=by
 show wpAny _ _ (field (.ref z) 2 >>= _) _ _ _;refine wpAny_bind (wpAny_field hz rfl (x:=.bool false) rfl ?_);show wpAny _ _ (field (.ref z) 3 >>= _) _ _ _;refine wpAny_bind (wpAny_field hz rfl (x:=.ref TI) rfl ?_);refine wpAny_bind (wpAny_seqItems hTI rfl ?_);show wpAny _ _ (Builtin.SmallTypes.ownedTupleIsFree (.ref z) >>= _) _ _ _;refine wpAny_bind (Zab hz hT λh₀ b₀ hz₀ hs₀ => ?_);simp only [Bool.false_eq_true,if_false]
 simp only [List.forIn_toArray,List.forIn_cons,List.forIn_nil];refine wpAny_bind (wpAny_bind (wpAny_bind (wpAny_holding ?_)));show wpAny _ _ (Builtin.SmallTypes.nextOf (.ref i1) >>= _) _ _ _;cases hx:xs[k1]? with
 |none=>
  refine wpAny_bind (QQ hh (h1.ext hs₀.extBut D.i1z) (hl1.ext hs₀.extBut D.l1z) hx λh₂ e hs₂ he => ?_);exact hE h₂ e (λc o c1 _ c3 _ x=>hs₂ _ _ c3 (hs₀.extBut _ _ c1 x)) he
 |some x=>
  have hy:ys[k2]? = none:=by rcases hend with h|h;rw [hx]at h;cases h;exact h
  refine wpAny_bind (Uj (h1.ext hs₀.extBut D.i1z) (hl1.ext hs₀.extBut D.l1z) hx λh₁ h1₁ hs₁=>wpAny_pure (wpAny_pure ?_));refine wpAny_bind (wpAny_bind (wpAny_holding ?_));show wpAny _ _ (Builtin.SmallTypes.nextOf (.ref i2) >>= _) _ _ _;refine wpAny_bind (QQ hh ((h2.ext hs₀.extBut D.i2z).ext hs₁.extBut D.i12.symm) ((hl2.ext hs₀.extBut D.l2z).ext hs₁.extBut D.l2i1) hy λh₂ e hs₂ he => ?_);exact hE h₂ e (λc o c1 _ c3 c4 x=>hs₂ _ _ c4 (hs₁.extBut _ _ c3 (hs₀.extBut _ _ c1 x))) he
structure ZipSQ(pk qk:Bool)(h:Heap)(z TI TO i1 i2 l1 l2:Addr)(i:Nat):Prop where
 zip:∃f0 b,Vh h z TI TO f0 (.bool b)/\((f0 = .none/\b=false)\/∃T o,f0=rawInt (T:Nat)/\h.get? T=some o)
 TI:IsPair h TI (.ref i1) (.ref i2)
 TO:∃a b,IsPair h TO a b
 it1:IsQI pk h i1 l1 i
 it2:IsQI qk h i2 l2 i
theorem ZcK {z TI TO i1 i2 l1 l2:Addr} {i:Nat} {xs ys:Array Value} {x y:Value} {Q:Option Value->Shared->Prop} (D:ZipApart z TI TO i1 i2 l1 l2) (st:ZipSQ pk qk s.heap z TI TO i1 i2 l1 l2 i)
 (hl1:IsQ pk s.heap l1 xs) (hl2:IsQ qk s.heap l2 ys) (hx:xs[i]? = some x) (hy:ys[i]? = some y)
 (hQ:∀h',ZipSQ pk qk h' z TI TO i1 i2 l1 l2 (i+1)->IsPair h' s.heap.objs.size x y->h'.objs.size=s.heap.objs.size+1 ->
   (∀c o,c≠z->c≠TO->c≠i1->c≠i2->s.heap.get? c=some o->h'.get? c=some o)->Q (some (.ref s.heap.objs.size)) { s with heap:=h' }) :
 wpAny (model prog w) A (pyNext (.ref z)) Q E s:=by
 obtain⟨f0,b,hz,hf⟩:=st.zip;obtain⟨a,b',hTO⟩:=st.TO;rcases hf with⟨rfl,rfl⟩|⟨T,o,rfl,hT⟩
 · refine Zbn D hz st.TI hTO st.it1 st.it2 hl1 hl2 hx hy λh' a1 a2 a3 a4 a5 a6 a7=>hQ h' ⟨⟨_,false,a1,.inr ⟨_,_,rfl,a5⟩⟩,a7 _ _ D.TIz D.TITO D.TIi1 D.TIi2 st.TI,⟨_,_,a2⟩,a3,a4⟩ a5 a6 a7
 · have hTy:s.TypeIs (.ref z) "zip" := ⟨_,hz,rfl⟩
   unfold pyNext
   refine wpAny_bind (wpAny_attempt (wpAny_callSpecial?_slot (name:=Str.ofString "__next__") hTy F.slot_zip_next
    (wpAny_call_entry F.slot_zip_next hTy F.entry_zip_next
      (ZcJ D hz hT st.TI st.it1 st.it2 hl1 hl2 hx hy λh' b2 a1 a3 a4 a5 a6 a7=>wpAny_pure ?_) (F.args_zip_next_1 _))))
   refine hQ h' ⟨⟨_,b2,a1,?_⟩,a7 _ _ D.TIz D.TIi1 D.TIi2 st.TI,⟨a,b',a7 _ _ D.TOz D.TOi1 D.TOi2 hTO⟩,a3,a4⟩ a5 a6 λc o c1 _ c3 c4 e=>a7 c o c1 c3 c4 e
   have key:∃o',h'.get? T=some o':=by
    by_cases e1:T=z
    · exact⟨_,by rw [e1];exact a1⟩
    · by_cases e2:T=i1
      · obtain⟨o',q,_⟩:=a3.get
        exact⟨o',e2▸q⟩
      · by_cases e3:T=i2
        · obtain⟨o',q,_⟩:=a4.get
          exact⟨o',e3▸q⟩
        · exact⟨o,a7 T o e1 e2 e3 hT⟩
   obtain⟨o',ho'⟩:=key;exact .inr ⟨T,o',rfl,ho'⟩
theorem Zej {z TI TO i1 i2 l1 l2:Addr} {i:Nat} {xs ys:Array Value} {Q:Option Value->Shared->Prop} (hh:A.handled=none) (D:ZipApart z TI TO i1 i2 l1 l2) (st:ZipSQ pk qk s.heap z TI TO i1 i2 l1 l2 i)
 (hl1:IsQ pk s.heap l1 xs) (hl2:IsQ qk s.heap l2 ys) (hend:xs[i]? = none\/ys[i]? = none)
 (hQ:∀h',(∀c o,c≠z->c≠TO->c≠i1->c≠i2->s.heap.get? c=some o->h'.get? c=some o)->Q none { s with heap:=h' }) :
 wpAny (model prog w) A (pyNext (.ref z)) Q E s:=by
 obtain⟨f0,b,hz,hf⟩:=st.zip;obtain⟨a,b',hTO⟩:=st.TO;rcases hf with⟨rfl,rfl⟩|⟨T,o,rfl,hT⟩
 · exact ZbH hh D hz st.TI hTO st.it1 st.it2 hl1 hl2 hend hQ
 · have hTy:s.TypeIs (.ref z) "zip" := ⟨_,hz,rfl⟩
   unfold pyNext
   refine wpAny_bind (wpAny_attempt (wpAny_callSpecial?_slot (name:=Str.ofString "__next__") hTy F.slot_zip_next
    (wpAny_call_entry F.slot_zip_next hTy F.entry_zip_next (Zei hh D hz hT st.TI st.it1 st.it2 hl1 hl2 hend λh' e hk he => ?_) (F.args_zip_next_1 _))))
   obtain⟨o,ho,hc⟩:=he;refine wpAny_bind (wpAny_isInstance (T:="StopIteration") (b:=true) ⟨o,ho,hc⟩ isSubtype_stop ?_);exact wpAny_pure (hQ _ hk)
theorem Zan {R:Result->Shared->Prop} {z TI TO i1 i2 l1 l2 S:Addr} {lo n:Nat} {xs ys:Array Value} {res:Value} (hh:A.handled=none) (D:ZipApart z TI TO i1 i2 l1 l2)
 (hn:n=min xs.size ys.size) (hns:n<=sizeLine) (hSz:S≠z) (hSTI:S≠TI) (hSTO:S≠TO) (hS1:S≠i1) (hS2:S≠i2) (hSl1:S≠l1) (hSl2:S≠l2) (hlo:S<lo/\z<lo/\TO<lo/\i1<lo/\i2<lo) :
 ∀(k i:Nat)(s:Shared)(acc:Array Value)(c:Nat),n-i=k->i<=n->lo<=s.heap.objs.size->ZipSQ pk qk s.heap z TI TO i1 i2 l1 l2 i->IsQ pk s.heap l1 xs->IsQ qk s.heap l2 ys ->
 s.heap.get? S=some { cls := .type "list",dict:=none,data := .seq acc c,slots := #[] }->QS s.heap lo xs ys acc i ->
 (∀h' acc' c',(∀b o,b≠S->b≠z->b≠TO->b≠i1->b≠i2->s.heap.get? b=some o->h'.get? b=some o)->h'.get? S=some { cls := .type "list",dict:=none,data := .seq acc' c',slots := #[] }->QS h' lo xs ys acc' n->R (.ok (.ret res)) { s with heap:=h' }) ->
 codeAny (model prog w) A (.builtin "list.extend.loop" ⟨[.ref S,.ref z,res],[]⟩) R s:=by
 have far:∀T:Nat,lo<=T->T≠S/\T≠z/\T≠TO/\T≠i1/\T≠i2:=λT hT=>by
  obtain⟨q1,q2,q3,q4,q5⟩:=hlo;exact⟨Nat.ne_of_gt (Nat.lt_of_lt_of_le q1 hT),Nat.ne_of_gt (Nat.lt_of_lt_of_le q2 hT),Nat.ne_of_gt (Nat.lt_of_lt_of_le q3 hT),Nat.ne_of_gt (Nat.lt_of_lt_of_le q4 hT),Nat.ne_of_gt (Nat.lt_of_lt_of_le q5 hT)⟩
 intro k
 induction k with
 |zero=>
  intro i s acc c hk hi hlo' st hl1 hl2 hS hacc hR;have hin:i=n:=by omega
  refine codeAny_builtin F.entry_extend_loop ?_;rw [Around.under_plainId F.plain_extend_loop _];show wpAny _ A.in1 (pyNext (.ref z) >>= _) _ _ s;refine wpAny_bind (Zej hh D st hl1 hl2 ?_ λh' k2 => ?_)
  · rcases Nat.le_total xs.size ys.size with h|h
    · exact .inl (by rw [Array.getElem?_eq_none_iff];omega)
    · exact .inr (by rw [Array.getElem?_eq_none_iff];omega)
  · refine wpAny_pure (hR h' acc c (λb o _ b1 b2 b3 b4 e=>k2 b o b1 b2 b3 b4 e) (k2 S _ hSz hSTO hS1 hS2 hS) ?_)
    rw [<-hin];refine⟨hacc.1,λj v hj => ?_,hacc.2.2⟩;obtain⟨T,x,y,e1,e2,e3,e4,e5⟩:=hacc.2.1 j v hj;obtain⟨_,f2,f3,f4,f5⟩:=far T e2;exact⟨T,x,y,e1,e2,e3,e4,k2 T _ f2 f3 f4 f5 e5⟩
 |succ k ih=>
  intro i s acc c hk hi hlo' st hl1 hl2 hS hacc hR;have hlt:i<n:=by omega
  have hx:xs[i]? = some xs[i]:=Array.getElem?_eq_getElem (by omega);have hy:ys[i]? = some ys[i]:=Array.getElem?_eq_getElem (by omega);refine codeAny_builtin F.entry_extend_loop ?_;rw [Around.under_plainId F.plain_extend_loop _];show wpAny _ A.in1 (pyNext (.ref z) >>= _) _ _ s;refine wpAny_bind (ZcK D st hl1 hl2 hx hy λh' st' hp hsz k2 => ?_);have hS':=k2 S _ hSz hSTO hS1 hS2 hS;show wpAny _ A.in1 (updateSeq S (·.push (.ref s.heap.objs.size)) >>= _) _ _ _
  refine wpAny_bind ?_;have oth:∀b o,b≠S->h'.get? b=some o->(h'.update S (Obj.mapSeq (·.push (Value.ref s.heap.objs.size)))).get? b=some o:=λb o hb e=>(Heap.get?_update_other _ _ (Ne.symm hb)).trans e
  have hszS:s.heap.objs.size≠S:=(far _ hlo').1
  refine wpAny_updateSeq hS' rfl (wpAny_pure ⟨plainId_quiet F.plain_extend_loop _,ih (i+1) _ (acc.push (.ref s.heap.objs.size)) _ (by omega) hlt ?_ ?_ ?_ ?_ (Heap.get?_update_self _ hS' rfl) ?_ λh'' acc' c' k3 hS'' hacc' => ?_⟩)
   (by rw [hacc.1];omega) (by show(acc.push _).size<=sizeLine+1;rw [Array.size_push,hacc.1];omega)
  · show lo<=(h'.update S _).objs.size
    rw [Heap.size_update,hsz];exact Nat.le_trans hlo' (Nat.le_succ _)
  · obtain⟨f0,b,q1,q2⟩:=st'.zip
    obtain⟨a1,a2,q3⟩:=st'.TO;refine⟨⟨f0,b,oth _ _ (Ne.symm hSz) q1,?_⟩,oth _ _ (Ne.symm hSTI) st'.TI,⟨a1,a2,oth _ _ (Ne.symm hSTO) q3⟩,st'.it1.at λo e=>oth _ o (Ne.symm hS1) e,st'.it2.at λo e=>oth _ o (Ne.symm hS2) e⟩;rcases q2 with q2|⟨T,o,q4,q5⟩
    · exact .inl q2
    · by_cases hT:T=S
      · exact .inr ⟨T,_,q4,by rw [hT];exact Heap.get?_update_self _ hS' rfl⟩
      · exact .inr ⟨T,o,q4,oth T o hT q5⟩
  · exact IsQ.at (hl1.at λo e=>k2 l1 o D.l1z D.l1TO D.l1i1 D.l1i2 e) λo e=>oth l1 o (Ne.symm hSl1) e
  · exact IsQ.at (hl2.at λo e=>k2 l2 o D.l2z D.l2TO D.l2i1 D.l2i2 e) λo e=>oth l2 o (Ne.symm hSl2) e
  · have old : ∀ (j : Nat), acc[j]? ≠ some (Value.ref s.heap.objs.size) := fun j z => by
     obtain⟨T,x,y,e1,e2,e3,e4,e5⟩:=hacc.2.1 j _ z;cases e1;exact absurd (Heap.lt_size e5) (Nat.lt_irrefl _)
    refine⟨by rw [Array.size_push,hacc.1],λj v hj => ?_,λj k v hj hk => ?_⟩
    · rw [Array.getElem?_push]at hj
      split at hj
      · rename_i e
        rw [hacc.1]at e;cases hj;exact⟨_,_,_,rfl,hlo',e▸hx,e▸hy,oth _ _ hszS hp⟩
      · obtain⟨T,x,y,e1,e2,e3,e4,e5⟩:=hacc.2.1 j v hj
        obtain⟨f1,f2,f3,f4,f5⟩:=far T e2;exact⟨T,x,y,e1,e2,e3,e4,oth _ _ f1 (k2 T _ f2 f3 f4 f5 e5)⟩
    · rw [Array.getElem?_push]at hj hk
      split at hj
      · rename_i ej
        split at hk
        · rename_i ek
          rw [ej,ek]
        · cases hj
          exact absurd hk (old k)
      · split at hk
        · cases hk
          exact absurd hj (old j)
        · exact hacc.2.2 j k v hj hk
  · exact hR h'' acc' c' (λb o b0 b1 b2 b3 b4 e=>k3 b o b0 b1 b2 b3 b4 (oth b o b0 (k2 b o b1 b2 b3 b4 e))) hS'' hacc'
theorem ZbO {R:Result->Shared->Prop} {z TI TO i1 i2 l1 l2 S:Addr} {lo n c₀:Nat} {xs ys:Array Value} {res a0 b0:Value} (hh:A.handled=none) (D:ZipApart z TI TO i1 i2 l1 l2)
 (hn:n=min xs.size ys.size) (hns:n<=sizeLine) (hSz:S≠z) (hSTI:S≠TI) (hSTO:S≠TO) (hS1:S≠i1) (hS2:S≠i2) (hSl1:S≠l1) (hSl2:S≠l2) (hlo:S<lo/\z<lo/\TO<lo/\i1<lo/\i2<lo) (hlo':lo<=s.heap.objs.size)
 (hz:IsZip s.heap z TI TO .none) (hTI:IsPair s.heap TI (.ref i1) (.ref i2)) (hTO:IsPair s.heap TO a0 b0) (h1:IsQI pk s.heap i1 l1 0) (h2:IsQI qk s.heap i2 l2 0) (hl1:IsQ pk s.heap l1 xs) (hl2:IsQ qk s.heap l2 ys)
 (hS:s.heap.get? S=some { cls := .type "list",data := .seq #[] c₀ })
 (hR:∀h' acc' c',(∀b o,b≠S->b≠z->b≠TO->b≠i1->b≠i2->s.heap.get? b=some o->h'.get? b=some o)->h'.get? S=some { cls := .type "list",dict:=none,data := .seq acc' c',slots := #[] }->QS h' lo xs ys acc' n->R (.ok (.ret res)) { s with heap:=h' }) :
 wpAny (model prog w) A.in1 (Builtin.List.listExtendWith (.ref S) (.ref z) res)
  (λfin s'=>match fin with | .done f=>R (.ok f) s' | .again c'=>c'.quiet=true/\codeAny (model prog w) A c' R s') (λe s'=>R (.error e) s') s:=by
 have hTy:s.TypeIs (.ref z) "zip" := ⟨_,hz,rfl⟩
 unfold Builtin.List.listExtendWith;refine wpAny_bind (wpAny_typeOf hTy ?_);have g1:Builtin.List.listSameRef (.ref S) (.ref z)=false:=by simp [Builtin.List.listSameRef,hSz]
 have g2:(Value.type "zip" == Value.type "list")=false:=by decide
 have g3:(Value.type "zip" == Value.type "tuple")=false:=by decide
 simp only [g1,g2,g3,Bool.or_false,Bool.false_eq_true,if_false];refine wpAny_bind (wpAny_pyIter_zip hz ?_);refine wpAny_bind (wpAny_holding ?_);unfold Builtin.List.listLengthHint;refine wpAny_bind (wpAny_specialOf hTy ZcF ?_);show wpAny _ A.in1 (specialOf (Value.ref z) (Str.ofString "__length_hint__") >>= _) _ _ _;refine wpAny_bind (wpAny_specialOf hTy ZbJ ?_);refine wpAny_pure ?_
 show wpAny _ A.in1 (rule "list.extend.makes-room" >>= λ_=>Builtin.List.listTouch (.ref S) >>= λ_=>
  again (.builtin "list.extend.loop" ⟨[.ref S,.ref z,res],[]⟩)) _ _ _
 refine wpAny_bind (wpAny_rule ?_);refine wpAny_bind ?_;show wpAny _ A.in1 (updateSeq S (·.push .none) >>= λ_=>updateSeq S (·.pop)) _ _ _;refine wpAny_bind (wpAny_updateSeq hS rfl ?_);have hS₂:=Heap.get?_update_self (Obj.mapSeq (·.push Value.none)) hS rfl;refine wpAny_updateSeq hS₂ rfl ?_;have hS₃:=Heap.get?_update_self (Obj.mapSeq (·.pop)) hS₂ rfl
 have oth:∀b o,b≠S->s.heap.get? b=some o->((s.heap.update S (Obj.mapSeq (·.push Value.none))).update S (Obj.mapSeq (·.pop))).get? b=some o:=
  λb o hb e=>(Heap.get?_update_other _ _ (Ne.symm hb)).trans ((Heap.get?_update_other _ _ (Ne.symm hb)).trans e)
 refine wpAny_pure ⟨plainId_quiet F.plain_extend_loop _,Zan hh D hn hns hSz hSTI hSTO hS1 hS2 hSl1 hSl2 hlo n 0 _ #[] _ rfl (Nat.zero_le _) ?_ ⟨⟨_,false,oth _ _ (Ne.symm hSz) hz,.inl ⟨rfl,rfl⟩⟩,oth _ _ (Ne.symm hSTI) hTI,⟨a0,b0,oth _ _ (Ne.symm hSTO) hTO⟩,h1.at λo e=>oth _ o (Ne.symm hS1) e,h2.at λo e=>oth _ o (Ne.symm hS2) e⟩ (hl1.at λo e=>oth _ o (Ne.symm hSl1) e) (hl2.at λo e=>oth _ o (Ne.symm hSl2) e) hS₃ ⟨rfl,(λj v h=>by simp at h),λj k v h=>by simp at h⟩ λh' acc' c' k3 hS' hacc => ?_⟩
 · show lo<=((s.heap.update S _).update S _).objs.size
   rw [Heap.size_update,Heap.size_update];exact hlo'
 · exact hR h' acc' c' (λb o b0 b1 b2 b3 b4 e=>k3 b o b0 b1 b2 b3 b4 (oth b o b0 e)) hS' hacc
theorem Zay {Q:Value->Shared->Prop} {z TI TO i1 i2 l1 l2:Addr} {n:Nat} {xs ys:Array Value} {a0 b0:Value} (hh:A.handled=none) (D:ZipApart z TI TO i1 i2 l1 l2)
 (hn:n=min xs.size ys.size) (hns:n<=sizeLine)
 (hz:IsZip s.heap z TI TO .none) (hTI:IsPair s.heap TI (.ref i1) (.ref i2)) (hTO:IsPair s.heap TO a0 b0) (h1:IsQI pk s.heap i1 l1 0) (h2:IsQI qk s.heap i2 l2 0) (hl1:IsQ pk s.heap l1 xs) (hl2:IsQ qk s.heap l2 ys)
 (hQ:∀h' acc' c',(∀b o,b≠z->b≠TO->b≠i1->b≠i2->s.heap.get? b=some o->h'.get? b=some o)->h'.get? s.heap.objs.size=some { cls := .type "list",dict:=none,data := .seq acc' c',slots := #[] }->QS h' (s.heap.objs.size+1) xs ys acc' n->Q (.ref s.heap.objs.size) { s with heap:=h' }) :
 wpAny (model prog w) A (call (.type "list") [.ref z]) Q E s:=by
 refine callType_codes (Q₁:=λobj s₁=>obj = .ref s.heap.objs.size/\s₁={ s with heap:=s.heap.push { cls := .type "list",data := .seq #[] } }) F.called_list (F.typeCall_list_1 _) F.entry_list_init
  (code_list_new _ ⟨rfl,rfl⟩) λobj s₁ h₁ => ?_
 obtain⟨rfl,rfl⟩:=h₁;have hS:(s.heap.push { cls := .type "list",data := .seq #[] }).get? s.heap.objs.size=some { cls := .type "list",data := .seq #[] }:=Heap.get?_push_size _ rfl;have up:∀b o,s.heap.get? b=some o->(s.heap.push { cls := .type "list",data := .seq #[] }).get? b=some o:=λb o e=>Heap.get?_push_of_some _ e
 have lt:∀{b o},s.heap.get? b=some o->b<s.heap.objs.size:=λe=>Heap.lt_size e
 have lz:=lt hz;have lTI:=lt hTI;have lTO:=lt hTO;have l1':i1<s.heap.objs.size:=by obtain⟨o,q,_⟩:=h1.get;exact lt q
 have l2':i2<s.heap.objs.size:=by obtain⟨o,q,_⟩:=h2.get;exact lt q
 have ll1:l1<s.heap.objs.size:=hl1.lt;have ll2:l2<s.heap.objs.size:=hl2.lt;refine⟨⟨_,hS,rfl⟩,F.args_list_init_2 _ _,?_⟩;show wpAny _ _ (do let old <-Builtin.List.listItems (.ref s.heap.objs.size);Builtin.List.listUpdate (.ref s.heap.objs.size) (λ_ => #[]);letGo old.toList.reverse;Builtin.List.listExtendWith (.ref s.heap.objs.size) (.ref z) .none) _ _ _;refine wpAny_bind ?_;unfold Builtin.List.listItems
 refine wpAny_bind (wpAny_seqItems hS rfl (wpAny_pure ?_));show wpAny _ _ (updateSeq s.heap.objs.size (λ_ => #[]) >>= λ_=>letGo (#[]:Array Value).toList.reverse >>= λ_=>Builtin.List.listExtendWith (.ref s.heap.objs.size) (.ref z) .none) _ _ _;refine wpAny_bind (wpAny_updateSeq hS rfl ?_);obtain⟨c1,hS₂⟩:∃c1,((s.heap.push { cls := .type "list",data := .seq #[] }).update s.heap.objs.size (Obj.mapSeq (λ_=>(#[]:Array Value)))).get? s.heap.objs.size=some { cls := .type "list",data := .seq #[] c1 }:=⟨_,Heap.get?_update_self (Obj.mapSeq (λ_=>(#[]:Array Value))) hS rfl⟩
 have oth:∀b o,s.heap.get? b=some o->((s.heap.push { cls := .type "list",data := .seq #[] }).update s.heap.objs.size (Obj.mapSeq (λ_=>(#[]:Array Value)))).get? b=some o:=
  λb o e=>(Heap.get?_update_other _ _ (Nat.ne_of_gt (lt e))).trans (up b o e)
 refine wpAny_bind (wpAny_letGo ?_);refine ZbO (A:=A.in1) (s:={ s with heap:=(s.heap.push { cls := .type "list",data := .seq #[] }).update s.heap.objs.size (Obj.mapSeq (λ_=>(#[]:Array Value))) }) (lo:=s.heap.objs.size+1) hh D hn hns (Nat.ne_of_gt lz) (Nat.ne_of_gt lTI) (Nat.ne_of_gt lTO) (Nat.ne_of_gt l1') (Nat.ne_of_gt l2') (Nat.ne_of_gt ll1) (Nat.ne_of_gt ll2) ⟨Nat.lt_succ_self _,Nat.lt_succ_of_lt lz,Nat.lt_succ_of_lt lTO,Nat.lt_succ_of_lt l1',Nat.lt_succ_of_lt l2'⟩ ?_ (oth _ _ hz) (oth _ _ hTI) (oth _ _ hTO) (h1.at λo e=>oth _ o e) (h2.at λo e=>oth _ o e) (hl1.at λo e=>oth _ o e) (hl2.at λo e=>oth _ o e) hS₂ λh' acc' c' k3 hS' hacc => ?_
 · show s.heap.objs.size+1<=((s.heap.push _).update _ _).objs.size
   rw [Heap.size_update,Heap.size_push];exact Nat.le_refl _
 · exact⟨rfl,hQ h' acc' c' (λb o b1 b2 b3 b4 e=>k3 b o (Nat.ne_of_lt (lt e)) b1 b2 b3 b4 (oth b o e)) hS' hacc⟩
end
end PySem
namespace L2
open PySem PySem.Spec PyProof.Rows
section
variable{prog:Program}{w:World}{A:Around}{E:Value->Shared->Prop}{s:Shared}
theorem ZcL {p q:Bool} {l1 l2:Addr} {xs ys:Array Value} {Q:Value->Shared->Prop} (m1:IsQ p s.heap l1 xs) (m2:IsQ q s.heap l2 ys)
 (h:∀h',IsZip h' (s.heap.objs.size+4) (s.heap.objs.size+2) (s.heap.objs.size+3) .none->IsPair h' (s.heap.objs.size+2) (.ref s.heap.objs.size) (.ref (s.heap.objs.size+1))->IsPair h' (s.heap.objs.size+3) .none .none->IsQI p h' s.heap.objs.size l1 0->IsQI q h' (s.heap.objs.size+1) l2 0->h'.objs.size=s.heap.objs.size+5->(∀c o,s.heap.get? c=some o->h'.get? c=some o)->Q (.ref (s.heap.objs.size+4)) { s with heap:=h' }) :
 wpAny (model prog w) A (call (.type "zip") [.ref l1,.ref l2]) Q E s:=by
 refine callType_new F.called_zip (by decide) (F.typeCall_zip_2 _ _) (F.newCall_zip_2 _ _) (λobj=>F.args_object_init_3 obj _ _) F.entry_zip_new (ZcC p q l1 l2 xs ys) ⟨m1,m2,?_⟩;have z1:(s.heap.push (itO p l1)).objs.size=s.heap.objs.size+1:=Heap.size_push ..;have z2:(zq2 p q s.heap l1 l2).objs.size=s.heap.objs.size+2:=by rw [Heap.size_push,z1]
 have z3:(zq3 p q s.heap l1 l2).objs.size=s.heap.objs.size+3:=by rw [Heap.size_push,z2]
 have z4:(zq4 p q s.heap l1 l2).objs.size=s.heap.objs.size+4:=by rw [Heap.size_push,z3]
 have up:=λ(h:Heap) (o o':Obj) (a:Addr) (e:h.get? a=some o')=>Heap.get?_push_of_some (h:=h) o e
 have g5:(zq5 p q s.heap l1 l2).get? (zq4 p q s.heap l1 l2).objs.size=some _:=Heap.get?_push_size _ rfl;have g4:(zq5 p q s.heap l1 l2).get? (zq3 p q s.heap l1 l2).objs.size=some _:=up _ _ _ _ (Heap.get?_push_size _ rfl);have g3:(zq5 p q s.heap l1 l2).get? (zq2 p q s.heap l1 l2).objs.size=some _:=up _ _ _ _ (up _ _ _ _ (Heap.get?_push_size _ rfl));have g2:(zq5 p q s.heap l1 l2).get? (s.heap.push (itO p l1)).objs.size=some (itO q l2):=up _ _ _ _ (up _ _ _ _ (up _ _ _ _ (Heap.get?_push_size _ (by cases q<;>rfl))))
 have g1:(zq5 p q s.heap l1 l2).get? s.heap.objs.size=some (itO p l1):=up _ _ _ _ (up _ _ _ _ (up _ _ _ _ (up _ _ _ _ (Heap.get?_push_size _ (by cases p<;>rfl)))));show _/\_;rw [z2,z3,z4]at g5;rw [z1,z2]at g3;rw [z3]at g4;rw [z1]at g2;rw [z4];exact⟨⟨_,g5,rfl⟩,h _ g5 g3 g4 (Zfx p g1) (Zfx q g2) (by rw [Heap.size_push,z4]) λc o e=>up _ _ _ _ (up _ _ _ _ (up _ _ _ _ (up _ _ _ _ (up _ _ _ _ e))))⟩
end
def Zbd(K:PySem.W.Frag)(ta:TA):TE:=λσ H Q=>ta σ H λvs H1=>∃pk qk l1 l2 xs ys,vs=[.ref l1,.ref l2]/\SqQ pk K H1 l1 xs/\SqQ qk K H1 l2 ys/\xs.length<=sizeLine /\
 ∀(H2:Hp)(ps:List Addr),Same H1 H2->ps.length=min xs.length ys.length->(∀(k:Nat)(p:Addr),ps[k]? = some p->∃x y,xs[k]? = some x/\ys[k]? = some y/\H1 p=none/\H2 p=some (.tup [x,y]))->∀l,H2 l=none->H1 l=none->Q (.ref l) (upd H2 l (.lst (ps.map V.ref)))
section
variable{X:Cx}
open Classical in
theorem ZbP {K:PySem.W.Frag} {a b:Expr} {ta tb:TE} {p p2 pos pos2:Pos} (hcm:X.calm=true) (hg:Gl X "list") (hm:X.mg "list" = none) (hgz:Gl X "zip") (hmz:X.mg "zip" = none) (ha:PE X a ta) (hb:PE X b tb) (hs:starEach [a,b] X.env=(false,eval a X.env)::starEach [b] X.env:=by rfl) (hs2:starEach [b] X.env=[(false,eval b X.env)]:=by rfl)
 (ho:starEach [.Call (.Name "zip" p2) [a,b] [] pos2] X.env=[(false,eval (.Call (.Name "zip" p2) [a,b] [] pos2) X.env)]:=by rfl) (hK:X.K=K:=by rfl) :
 PE X (.Call (.Name "list" p) [.Call (.Name "zip" p2) [a,b] [] pos2] [] pos) (Zbd K (Z0 ta (Z0 tb tNil))):=by
 subst hK;intro pins s σ H Q I h;refine wpAny_Call_Name_kw (Vn I hg hm boot_list ?_ (by decide) (by decide));refine PyProof.Rows.callWith_type1 ?_ ho rfl;rw [ho];refine Calls.spliced_cons ?_;refine Call_ (Vn I hgz hmz boot_zip (PyProof.Rows.callWith_type1 (thn ((Zf ha (Zf hb Zg hs2) hs) pos2 pins s σ H _ I h) λus s1 ⟨vs,H1,I1,r1,q1⟩ => ?_) (by rw [hs,hs2]) (by rw [hs2];rfl)));obtain⟨pk,qk,l1,l2,xs,ys,e,hq1,hq2,hzz,q⟩:=q1
 subst e;cases r1 with
 |cons r rr=>
  cases rr with
  |cons r' rr'=>
   cases rr';cases r;cases r';obtain⟨its1,rv1,p1,_⟩:=I1.seqQ hq1;obtain⟨its2,rv2,p2',_⟩:=I1.seqQ hq2;have lt1:l1<s1.heap.objs.size:=p1.lt;have lt2:l2<s1.heap.objs.size:=p2'.lt;have el1:=rv1.length;have el2:=rv2.length;refine ZcL p1 p2' λh' hz hTI hTO h1 h2 hsz k => ?_
   refine Calls.spliced_nil ?_;have D:ZipApart (s1.heap.objs.size+4) (s1.heap.objs.size+2) (s1.heap.objs.size+3) s1.heap.objs.size (s1.heap.objs.size+1) l1 l2:=zipApart_new lt1 lt2;refine Zay (s:={ s1 with heap:=h' }) (n:=min xs.length ys.length) (I1.ok.hd hcm) D (by simp [el1,el2]) (Nat.le_trans (Nat.min_le_left _ _) hzz) hz hTI hTO h1 h2 (p1.at λo e=>k _ o e) (p2'.at λo e=>k _ o e) λh'' acc c k3 hS hacc => ?_
   have hsz:h'.objs.size=s1.heap.objs.size+5:=hsz
   have old:∀b o,s1.heap.get? b=some o->h''.get? b=some o:=λb o e=>by
    have hb:=Heap.lt_size e;exact k3 b o (Nat.ne_of_lt (Nat.lt_of_lt_of_le hb (Nat.le_add_right _ _))) (Nat.ne_of_lt (Nat.lt_of_lt_of_le hb (Nat.le_add_right _ _))) (Nat.ne_of_lt hb) (Nat.ne_of_lt (Nat.lt_of_lt_of_le hb (Nat.le_add_right _ _))) (k b o e)
   obtain⟨hac,hit,hinj⟩:=hacc
   let ps:List Addr:=acc.toList.map QT
   have hps:∀(j:Nat)(p:Addr),ps[j]? = some p->∃x y u v,xs[j]? = some x/\ys[j]? = some y/\RelV x u/\RelV y v/\IsPair h'' p u v/\h'.objs.size+1<=p/\acc[j]? = some (Value.ref p):=λj p hj=>by
    have hj':(acc.toList[j]?).map QT=some p:=by rw [<-List.getElem?_map];exact hj
    cases ea:acc.toList[j]? with
    |none=>rw [ea]at hj';cases hj'
    |some v=>
     rw [ea]at hj';have ea':acc[j]? = some v:=by simpa using ea
     obtain⟨T,u,w',e1,e2,e3,e4,e5⟩:=hit j v ea';subst e1;have ep:T=p:=Option.some.inj hj';subst ep
     have hjl:j<its1.length:=by
      have:=(Array.getElem?_eq_some_iff.mp e3).1;simpa using this
     have hjl2:j<its2.length:=by
      have:=(Array.getElem?_eq_some_iff.mp e4).1;simpa using this
     obtain⟨u',q1,q2⟩:=rv1.get (List.getElem?_eq_getElem (show j<xs.length by omega));obtain⟨w2,q3,q4⟩:=rv2.get (List.getElem?_eq_getElem (show j<ys.length by omega));have e3':its1[j]? = some u:=by simpa using e3
     have e4':its2[j]? = some w':=by simpa using e4
     rw [e3']at q1;rw [e4']at q3;cases q1;cases q3;exact⟨_,_,u,w',List.getElem?_eq_getElem (by omega),List.getElem?_eq_getElem (by omega),q2,q4,e5,e2,ea'⟩
   have hpi:∀(j k:Nat)(p:Addr),ps[j]? = some p->ps[k]? = some p->j=k:=λj k p hj hk=>by
    obtain⟨_,_,_,_,_,_,_,_,_,_,q1⟩:=hps j p hj;obtain⟨_,_,_,_,_,_,_,_,_,_,q2⟩:=hps k p hk;exact hinj j k _ q1 q2
   have hpl:ps.length=min xs.length ys.length:=by
    show(acc.toList.map QT).length=_;rw [List.length_map,Array.length_toList];exact hac
   let H2:Hp:=λb=>if hb:∃j:Nat,ps[j]? = some b then some (.tup [(xs[hb.choose]?).getD .non,(ys[hb.choose]?).getD .non])else H1 b
   have hin:∀(j:Nat)(p:Addr)(x y:V),ps[j]? = some p->xs[j]? = some x->ys[j]? = some y->H2 p=some (.tup [x,y]):=λj p x y hj hx hy=>by
    have hb:∃j:Nat,ps[j]? = some p:=⟨j,hj⟩
    have ej:hb.choose=j:=hpi _ _ _ hb.choose_spec hj;show(if hb:∃j:Nat,ps[j]? = some p then some (HO.tup [(xs[hb.choose]?).getD .non,(ys[hb.choose]?).getD .non])else H1 p)=_;rw [dif_pos hb,ej,hx,hy];rfl
   have hout:∀b,(¬∃j:Nat,ps[j]? = some b)->H2 b=H1 b:=λb hb=>dif_neg hb
   have hfar:∀(j:Nat)(p:Addr),ps[j]? = some p->H1 p=none:=λj p hj=>by
    obtain⟨_,_,_,_,_,_,_,_,_,hge,_⟩:=hps j p hj;refine I1.hok.fresh ?_;rw [hsz]at hge;exact Nat.le_trans (Nat.le_add_right _ 6) hge
   have hsame:Same H1 H2:=λb o e=>by
    rw [hout b λ⟨j,hj⟩=>by rw [hfar j b hj]at e;cases e];exact e
   have hSn:H1 h'.objs.size=none:=I1.hok.fresh (by rw [hsz];exact Nat.le_add_right _ _)
   have hSps:¬∃j:Nat,ps[j]? = some h'.objs.size:=λ⟨j,hj⟩=>by
    obtain⟨_,_,_,_,_,_,_,_,_,hge,_⟩:=hps j _ hj;exact absurd hge (Nat.not_succ_le_self _)
   have hS2:H2 h'.objs.size=none:=by rw [hout _ hSps];exact hSn
   have up:∀b o,H1 b=some o->upd H2 h'.objs.size (.lst (ps.map V.ref)) b=some o:=λb o e=>by
    rw [Zc (ZW e hSn)];exact hsame b o e
   have big:∀b o,s1.heap.get? b=some o->(¬∃j:Nat,ps[j]? = some b)/\b≠h'.objs.size:=λb o e=>by
    have hb:=Heap.lt_size e;refine⟨λ⟨j,hj⟩ => ?_,Nat.ne_of_lt (by rw [hsz];exact Nat.lt_of_lt_of_le hb (Nat.le_add_right _ _))⟩;obtain⟨_,_,_,_,_,_,_,_,_,hge,_⟩:=hps j b hj;rw [hsz]at hge;exact absurd (Nat.lt_of_lt_of_le hb (Nat.le_trans (Nat.le_add_right _ 6) hge)) (Nat.lt_irrefl _)
   have hacc':acc.toList=ps.map Value.ref:=by
    apply List.ext_getElem?;intro j;rw [List.getElem?_map];show acc.toList[j]? = ((acc.toList.map QT)[j]?).map Value.ref;rw [List.getElem?_map];cases ea:acc.toList[j]? with
    |none=>rfl
    |some v=>
     obtain⟨T,u,w',e1,_⟩:=hit j v (by simpa using ea);rw [e1];rfl
   refine⟨.ref h'.objs.size,upd H2 h'.objs.size (.lst (ps.map V.ref)),?_,rfl,q H2 ps hsame hpl (λj p hj => ?_) _ hS2 hSn⟩
   · refine I1.un (t':=s1.toks) ⟨λb u q _ _ _=>old b u q,λb u q _ _ _=>⟨u.slots,old b u q⟩,λb u e n _ => ?_,λb u q _=>⟨u,old b u q⟩,λb zs e=>up b _ e,λb o u e=>up b _ e,λb ps' e=>⟨#[],by rw [up b _ e];simp⟩⟩ λb o e => ?_
     · obtain⟨g1,g2⟩:=big b u e
       rw [Zc g2,hout b g1];exact n
     · by_cases hb:b=h'.objs.size
       · subst hb
         rw [Zm]at e;cases e;refine⟨by rw [List.length_map,hpl];exact Nat.le_trans (Nat.min_le_left _ _) hzz,acc.toList,c,by rw [hacc'];exact Zbb ps,?_⟩;simpa using hS
       · rw [Zc hb]at e
         by_cases hbp:∃j:Nat,ps[j]? = some b
         · obtain⟨j,hj⟩:=hbp
           obtain⟨x,y,u,v,g1,g2,g3,g4,g5,_,_⟩:=hps j b hj;rw [hin j b x y hj g1 g2]at e;cases e;exact⟨by show 2<=sizeLine;decide,[u,v],.cons g3 (.cons g4 .nil),⟨_,g5,rfl,⟨_,rfl⟩,rfl⟩⟩
         · rw [hout b hbp]at e
           exact(I1.hok b o e).stay (λd v _ q'=>old d v q') (λd q'=>up d _ q') (λd zs q'=>up d _ q') λd ob zs q'=>up d _ q'
   · obtain⟨x,y,u,v,g1,g2,g3,g4,g5,_,_⟩:=hps j p hj
     exact⟨x,y,g1,g2,hfar j p hj,hin j p x y hj g1 g2⟩
end
end L2
namespace DL
open PySem PySem.Spec L2
section
variable{cA:Kn}{G:Cn}{ow:List Nat}
theorem Zcd{av:Addr->Prop}{H:Hp}{d:D}{xs:List D}{v:V}(h:Zf1 d=some xs)(r:Rep cA av H d v):∃k l vs,v = .ref l/\SqQ k cA.K H l vs/\RepL cA av H xs vs:=by
 cases d<;>first|(cases h;done)|skip
 all_goals
  cases h;unfold Rep at r;obtain⟨a,vs,e,n,sq,l⟩:=r
 · exact⟨false,a,vs,e,sq,l⟩
 · exact⟨true,a,vs,e,SqT.of sq,l⟩
def Up(a b:Env->Option D)(δ:Env):Option D:=match a δ,b δ with
 |some d1,some d2=>match Zf1 d1,Zf1 d2 with
  |some xs,some ys=>if xs.length<=sizeLine then some (.lst (VC xs ys))else none
  |_,_=>none
 |_,_=>none
theorem ZbQ{ta tb:TE}{a b:Env->Option D}(ha:VE G ow ta .cl a)(hb:VE G ow tb .cl b):VF G ow (Zbd G.1.K (Z0 ta (Z0 tb tNil))) (Up a b):=λH0 av A σ H δ E d e Q k=>by
 unfold Up at e
 split at e
 · rename_i d1 d2 ex ey
   split at e
   rotate_left
   · cases e
   rename_i xs ys sx sy
   by_cases hz:xs.length<=sizeLine
   · rw [if_pos hz]at e
     cases e;refine ha H0 av A σ H δ E _ ex _ λv H1 s1 r1=>hb H0 av A σ H1 δ (E.mono s1) _ ey _ λw H2 s2 r2 => ?_
     obtain⟨pk,l1,vs,rfl,rd1,p1⟩:=Zcd sx (RepT.r r1);obtain⟨qk,l2,ws,rfl,rd2,p2⟩:=Zcd sy (RepT.r r2);have p1':=p1.same s2;have E2:=(E.mono s1).mono s2;refine⟨pk,qk,l1,l2,vs,ws,rfl,ZeM s2 rd1,rd2,by rw [<-p1.length];exact hz,λH3 ps s3 hpl hps l hl _ => ?_⟩;refine k l _ (VC xs ys) H3 ((s1.trans s2).trans s3) hl (Zdn (p1'.same s3) (p2.same s3) (by rw [hpl,p1.length,p2.length]) λk p hk => ?_) rfl
     obtain⟨x,y,g1,g2,g3,g4⟩:=hps k p hk;exact⟨x,y,g1,g2,λz=>E2.avl p z g3,g4⟩
   · rw [if_neg hz]at e;cases e
 · cases e
end
end DL
namespace DL
open PySem PySem.Spec L2
def fl1:D->Bool
 | .lst xs=>xs.all Zj
 | .tup xs=>xs.all Zj
 |d=>Zj d
def fl2:D->Bool
 | .lst xs=>xs.all fl1
 | .tup xs=>xs.all fl1
 |d=>Zj d
def flO:D->Bool
 | .lst xs=>xs.all fl1
 | .dct _ xs=>xs.all Zj
 | .dtt _ xs=>xs.all Zj
 |d=>Zj d
def clr(ow:List Nat)(δ:Env):Bool:=δ.zipIdx.all λp=>match p.1 with
 |none=>true
 |some d=>if ow.contains p.2 then flO d else fl2 d
theorem Ziq{ow:List Nat}{δ:Env}{j:Nat}{d:D}(h:clr ow δ=true)(e:δ[j]? = some (some d)):(if ow.contains j then flO d else fl2 d)=true:=by
 have m:((some d,j):Option D×Nat)∈δ.zipIdx:=List.mk_mem_zipIdx_iff_getElem?.mpr e;exact List.all_eq_true.mp h _ m
section
variable{cA:Kn}{av:Addr->Prop}{H:Hp}{a:Addr}{kvs:List (List Key×V)}{u:HO}
abbrev Gd(cA:Kn)(av:Addr->Prop)(H:Hp)(a:Addr)(u:HO)(d:D):Prop:=∀v,Rep cA av H d v->Rep cA (λx=>av x\/x=a) (upd H a u) d v
theorem Uq{d:D}(h:Zj d=true):Gd cA av H a u d:=λv r=>by
 cases d<;>first|(cases h;done)|(unfold Rep at r ⊢;exact r)
theorem Ur:∀{xs:List D}{vs:List V},(∀x∈xs,Gd cA av H a u x)->RepL cA av H xs vs->RepL cA (λx=>av x\/x=a) (upd H a u) xs vs
 | [],_,_,h=>by unfold RepL at h ⊢;exact h
 |x::xs,vs,g,h=>by
  obtain⟨v,r,rfl,h1,h2⟩:=h.uncons;exact .cons (g x List.mem_cons_self v h1) (Ur (λy hy=>g y (List.mem_cons_of_mem _ hy)) h2)
theorem ZfF{xs:List D}(ha:H a=some (.dT kvs))(g:∀x∈xs,Gd cA av H a u x):Gd cA av H a u (.lst xs):=λv r=>by
 unfold Rep at r ⊢;obtain⟨b,vs,rfl,n,sq,l⟩:=r
 have key:b=a->KL cA.K b vs:=λz=>by
  rcases sq with(q|⟨o,q⟩)|q
  · rw [z,ha]at q;cases q
  · rw [z,ha]at q;cases q
  · exact q
 refine⟨b,vs,rfl,λz=>z.elim n key,?_,Ur g l⟩
 by_cases hb:b=a
 · exact .inr (key hb)
 · rcases sq with(q|⟨o,q⟩)|q
   · exact .inl (.inl (by rw [Zc hb];exact q))
   · exact .inl (.inr ⟨o,by rw [Zc hb];exact q⟩)
   · exact .inr q
theorem ZfG{xs:List D}(ha:H a=some (.dT kvs))(g:∀x∈xs,Gd cA av H a u x):Gd cA av H a u (.tup xs):=λv r=>by
 unfold Rep at r ⊢;obtain⟨b,vs,rfl,n,q,l⟩:=r;have hb:b≠a:=λz=>by rw [z,ha]at q;cases q
 exact⟨b,vs,rfl,λz=>z.elim n hb,by rw [Zc hb];exact q,Ur g l⟩
theorem gd1{d:D}(ha:H a=some (.dT kvs))(h:fl1 d=true):Gd cA av H a u d:=by
 cases d with
 |lst xs=>exact ZfF ha λx hx=>Uq (List.all_eq_true.mp h x hx)
 |tup xs=>exact ZfG ha λx hx=>Uq (List.all_eq_true.mp h x hx)
 |_=>exact Uq h
theorem gd2{d:D}(ha:H a=some (.dT kvs))(h:fl2 d=true):Gd cA av H a u d:=by
 cases d with
 |lst xs=>exact ZfF ha λx hx=>gd1 ha (List.all_eq_true.mp h x hx)
 |tup xs=>exact ZfG ha λx hx=>gd1 ha (List.all_eq_true.mp h x hx)
 |_=>exact Uq h
end
section
variable{G:Cn}{ow owB owC:List Nat}{i:Nat}{H0 H H':Hp}{av:Addr->Prop}{A A':Nat->Option Addr}{σ σ':L2.St}{δ δ':Env}{a:Addr}{kvs:List (List Key×V)}
theorem Ze6(E:ER G ow H0 av A σ H δ)(ha:H a=some (.dT kvs))(na:¬AV av A a)(hc:clr ow (δ.set i none)=true)(u:HO) :
 ER G ow (ovl H0 (upd H a u) [a]) (avF av [a]) A σ (upd H a u) (δ.set i none):=by
 have av1:∀b,AV (avF av [a]) A b->AV av A b\/b=a:=λb z=>by
  rcases z with(z|z)|z
  · exact .inl (.inl z)
  · exact .inr (List.mem_singleton.mp z)
  · exact .inl (.inr z)
 have nA:∀j x,A j=some x->x≠a:=λj x z y=>na (by rw [<-y];exact .inr ⟨j,z⟩)
 have wk:∀{d:D}{v:V},Rep G.1 (λx=>AV av A x\/x=a) (upd H a u) d v->Rep G.1 (AV (avF av [a]) A) (upd H a u) d v:=λr=>r.av λb y => .inl (av1 b y)
 have wkl:∀{ds:List D}{vs:List V},RepL G.1 (λx=>AV av A x\/x=a) (upd H a u) ds vs->RepL G.1 (AV (avF av [a]) A) (upd H a u) ds vs:=λr=>r.av λb y => .inl (av1 b y)
 refine⟨λb w e => ?_,λx z => ?_,λj x z => ?_,E.inj,λj x z => ?_,E.dom,E.dom',by rw [List.length_set];exact E.len,E.pin,E.kept,λj d e => ?_⟩
 · by_cases hb:b=a
   · subst hb;rw [Yb (List.mem_singleton.mpr rfl)]at e;exact e
   · rw [ZZ (by simpa using hb)]at e
     rw [Zc hb];exact E.same b w e
 · by_cases hx:x=a
   · subst hx;rw [Yb (List.mem_singleton.mpr rfl),Zm];exact λz=>by cases z
   · rw [ZZ (by simpa using hx)]
     rcases z with z|z
     · exact E.avd x z
     · exact absurd (List.mem_singleton.mp z) hx
 · rw [ZZ (by simpa using nA j x z)];exact E.fr j x z
 · rw [Zc (nA j x z)];exact E.live j x z
 · have hcl:=Ziq hc e
   have q:j≠i:=λz=>by
    subst z
    by_cases hl:j<δ.length
    · rw [List.getElem?_set_self hl]at e;cases e
    · rw [List.getElem?_eq_none (by rw [List.length_set];omega)]at e;cases e
   rw [List.getElem?_set_ne (Ne.symm q)]at e;obtain⟨v,h1,h2,h3⟩:=E.var j d e;refine⟨v,h1,λz => ?_,λx z => ?_⟩
   · have nj : ow.contains j = false := by
      cases hj:ow.contains j with
      |false=>rfl
      |true=>exact absurd z (E.dom' j (by simpa using hj))
     rw [nj]at hcl;exact wk (gd2 ha hcl v (h2 z))
   · have yj : ow.contains j = true := by
      have:=E.dom j (by rw [z];exact λy=>by cases y);simpa using this
     rw [yj,if_pos rfl]at hcl;obtain⟨r1,r2⟩:=h3 x z;have n:=nA j x z;refine⟨r1,?_⟩;cases d with
     |lst xs=>obtain⟨vs,q1,q2⟩:=r2;exact⟨vs,by rw [Zc n];exact q1,wkl (Ur (λy hy=>gd1 ha (List.all_eq_true.mp hcl y hy)) q2)⟩
     |dct ks xs=>obtain⟨vs,q1,q0,q2⟩:=r2;exact⟨vs,by rw [Zc n];exact q1,q0,wkl (Ur (λy hy=>Uq (List.all_eq_true.mp hcl y hy)) q2)⟩
     |dtt ks xs=>obtain⟨vs,q1,q0,q2⟩:=r2;exact⟨vs,by rw [Zc n];exact q1,q0,wkl (Ur (λy hy=>Uq (List.all_eq_true.mp hcl y hy)) q2)⟩
     |obj c ks xs=>cases hcl
     |_=>exact r2
theorem Ze7{H2:Hp}(E:ER G ow (ovl H0 H2 [a]) (avF av [a]) A' σ' H' δ')(h2:H2 a≠none)(h0:∀w,H0 a=some w->w = .dT kvs)(hav:∀x,av x->H0 x≠none):ER G ow H0 av A' σ' (upd H' a (.dT kvs)) δ':=by
 have na:∀j x,A' j=some x->x≠a:=λj x e z=>by
  have:=E.fr j x e;subst z;rw [Yb (List.mem_singleton.mpr rfl)]at this;exact h2 this
 have av1:∀b,AV av A' b->AV (avF av [a]) A' b:=λb z=>z.elim (λz => .inl (.inl z)) .inr
 have ext:∀b w,¬AV (avF av [a]) A' b->H' b=some w->upd H' a (.dT kvs) b=some w:=λb w n e=>by
  rw [Zc λz=>n (by rw [z];exact .inl (.inr (List.mem_singleton.mpr rfl)))];exact e
 have tr:∀{d:D}{v:V},Rep G.1 (AV (avF av [a]) A') H' d v->Rep G.1 (AV av A') (upd H' a (.dT kvs)) d v:=λr=>(r.ext ext).av λb y => .inl (av1 b y)
 have trl:∀{ds:List D}{ws:List V},RepL G.1 (AV (avF av [a]) A') H' ds ws->RepL G.1 (AV av A') (upd H' a (.dT kvs)) ds ws:=λr=>(r.ext ext).av λb y => .inl (av1 b y)
 refine⟨λb w e => ?_,hav,λj x z => ?_,E.inj,λj x z => ?_,E.dom,E.dom',E.len,E.pin,E.kept,λj d e => ?_⟩
 · by_cases hb:b=a
   · subst hb;rw [Zm,h0 w e]
   · rw [Zc hb]
     exact E.same b w (by rw [ZZ (by simpa using hb)];exact e)
 · have:=E.fr j x z
   rw [ZZ (by simpa using na j x z)]at this;exact this
 · rw [Zc (na j x z)];exact E.live j x z
 · obtain⟨v,h1,h2,h3⟩:=E.var j d e
   refine⟨v,h1,λz=>tr (h2 z),λx z => ?_⟩;obtain⟨r1,r2⟩:=h3 x z;refine⟨r1,?_⟩;have n:=na j x z;cases d with
   |lst xs=>obtain⟨vs,q1,q2⟩:=r2;exact⟨vs,by rw [Zc n];exact q1,trl q2⟩
   |obj c ks xs=>obtain⟨dx,vs,q1,q0,q2⟩:=r2;exact⟨dx,vs,by rw [Zc n];exact q1,q0,trl q2⟩
   |dct ks xs=>obtain⟨vs,q1,q0,q2⟩:=r2;exact⟨vs,by rw [Zc n];exact q1,q0,trl q2⟩
   |dtt ks xs=>obtain⟨vs,q1,q0,q2⟩:=r2;exact⟨vs,by rw [Zc n];exact q1,q0,trl q2⟩
   |_=>exact r2
def lenTD:List D->Option D
 | [.dtt ks _]=>some (.int ks.length)
 |_=>none
def Us(ow:List Nat)(i n:Nat)(γs:List D->Env->Option Env)(φ:Env->Option Out)(δ:Env):Option Out:=match Za i δ with
 |some (.dtt ks xs)=>if clr ow (δ.set i none)then match ZR (Vc n γs) φ (ks.map kD) (δ.set i none)with
  |some (.nx δ')=>some (.nx δ')
  |_=>none else none
 |_=>none
theorem Ze8 {n:Nat} {gs:TGs} {tb:TS} {γs:List D->Env->Option Env} {φ:Env->Option Out} (i:Nat) (hi:ow.contains i=false)
 (hg:VGs G ow ow gs γs) (hb:VS G ow ow ow ow tb φ):VS G ow ow owB owC (ZhE (Zq i) (Qg G.1.K n gs) tb) (Us ow i n γs φ):=λH0 av A σ H δ E o e De k=>by
 unfold Us at e
 split at e
 case h_2=>cases e
 rename_i ks xs hv
 by_cases hcl:clr ow (δ.set i none)=true
 case neg=>rw [if_neg hcl]at e;cases e
 rw [if_pos hcl]at e
 have hA:A i=none:=by
  cases q:A i with
  |none=>rfl
  |some x=>exact absurd (E.dom i (by rw [q];exact λz=>by cases z)) (by simpa using hi)
 have hd:=ZT hv;obtain⟨v,g1,g2,_⟩:=E.var i _ hd;have r:=g2 hA;unfold Rep at r;obtain⟨a,vs,rfl,na,q1,hkl,q2⟩:=r;intro NF;refine⟨_,g1,a,ks.zip vs,rfl,q1,λob nf => ?_⟩;have Eh:=Ze6 (i:=i) E q1 na hcl (.frz ob (.dT (ks.zip vs)));have hzl:(ks.zip vs).length=ks.length:=by rw [List.length_zip,<-q2.length];omega
 cases hf:ZR (Vc n γs) φ (ks.map kD) (δ.set i none)with
 |none=>rw [hf]at e;cases e
 |some o1=>
 rw [hf]at e;refine⟨λt m σ' H'=>m=ks.length-t/\t<=ks.length/\∃A' δ',ER G ow (ovl H0 (upd H a (.frz ob (.dT (ks.zip vs)))) [a]) (avF av [a]) A' σ' H' δ'/\ZR (Vc n γs) φ ((ks.map kD).drop t) δ'=some o1,⟨ks.length,by simp,Nat.zero_le _,_,_,Eh,hf⟩,?_⟩
 rintro t m σ' H' ⟨rfl,hle,A',δ',E',e'⟩
 have fr:H' a=some (.frz ob (.dT (ks.zip vs))):=E'.same a _ (by rw [Yb (List.mem_singleton.mpr rfl),Zm])
 have fin:∀{A':Nat->Option Addr}{σ':L2.St}{H':Hp}{δ':Env},ER G ow (ovl H0 (upd H a (.frz ob (.dT (ks.zip vs)))) [a]) (avF av [a]) A' σ' H' δ'->o1 = .nx δ'->∃d o kvs,H' d=some (.frz o (.dT kvs))/\NF d/\De.nx σ' (upd H' d (.dT kvs)):=λ{A' σ' H' δ'} E' eo=>by
  subst eo;cases e;have fr:H' a=some (.frz ob (.dT (ks.zip vs))):=E'.same a _ (by rw [Yb (List.mem_singleton.mpr rfl),Zm]);refine⟨a,ob,_,fr,nf,?_⟩
  exact k _ _ _ (Ze7 E' (by rw [Zm];exact λz=>by cases z) (λw hw=>by
   have:=E.same a w hw;rw [q1]at this;exact(Option.some.inj this).symm) E.avd)
 by_cases hlt:t<ks.length
 · have hlt':t<(ks.map kD).length:=by rw [List.length_map];exact hlt
   refine .inr ⟨⟨fr,by rw [hzl];exact hlt⟩,λσ2 H2=>∃A2 δ2,ER G ow (ovl H0 (upd H a (.frz ob (.dT (ks.zip vs)))) [a]) (avF av [a]) A2 σ2 H2 δ2/\ZR (Vc n γs) φ ((ks.map kD).drop (t+1)) δ2=some o1,λσ2 H2 ⟨A2,δ2,E2,e2⟩=>⟨ks.length-(t+1),by omega,rfl,hlt,A2,δ2,E2,e2⟩,λv H2 y => ?_⟩;obtain⟨rfl,ka,kk,x,y1,y2,y3⟩:=y;subst y2;rw [List.drop_eq_getElem_cons hlt']at e'
   have ek:(ks.map kD)[t]=kD kk:=by
    rw [List.getElem_map];have:=List.getElem?_zip_eq_some.mp y1;rw [List.getElem?_eq_getElem hlt]at this;rw [Option.some.inj this.1]
   rw [ek]at e';unfold ZR at e';cases hγ:Vc n γs (kD kk) δ' with
   |none=>rw [hγ]at e';cases e'
   |some δ1=>
   rw [hγ]at e';dsimp only at e';unfold Vc kD at hγ;dsimp only at hγ
   by_cases hl:(kk.map Ul).length=n
   case neg=>rw [if_neg hl]at hγ;cases hγ
   rw [if_pos hl]at hγ;refine⟨ka,_,rfl,SqT.of y3,by rw [List.length_map];rw [List.length_map]at hl;exact hl,?_⟩;refine hg _ _ A' σ' _ δ' E' _ _ (ZeR kk) δ1 hγ _ λA3 σ3 H3 s3 _ E3 => ?_
   cases hφ:φ δ1 with
   |none=>rw [hφ]at e';cases e'
   |some o2=>
    rw [hφ]at e';refine hb _ _ A3 σ3 H3 δ1 E3 o2 hφ _ ?_;cases o2 with
    |nx δ2=>exact λA4 σ4 H4 E4=>⟨A4,δ2,E4,e'⟩
    |ct δ2=>exact λA4 σ4 H4 E4=>⟨A4,δ2,E4,e'⟩
    |bk δ2=>exact λA4 σ4 H4 E4=>fin E4 (Option.some.inj e').symm
    |rt d=>
     have:o1 = .rt d:=(Option.some.inj e').symm;subst this;cases e
 · have ei:t=ks.length:=by omega
   subst ei;rw [List.drop_of_length_le (by rw [List.length_map];exact Nat.le_refl _)]at e';exact .inl ⟨⟨fr,by rw [hzl];exact Nat.le_refl _⟩,fin E' (Option.some.inj e').symm⟩
theorem Zdw{cA:Kn}:QH cA (UW cA.K) lenTD:=λi H ds vs d _ h e Q k=>by
 unfold lenTD at e
 split at e
 · rename_i ks xs
   cases e;obtain⟨v,t,rfl,a,ws,rfl,_,r,z,l⟩:=il1 h
   have hl:(ks.zip ws).length=ks.length:=by
    rw [List.length_zip];have:=l.length;omega
   exact⟨a,ks.zip ws,rfl,Rd.of r,by rw [hl];exact k _ H (Same.refl H) rfl⟩
 · cases e
end
end DL
namespace DL
open PySem PySem.Spec L2
theorem Zir {P:Program} {w:World} {K:PySem.W.Frag} {mg:Str->Option Value} {base:Heap} {cA:Kn} {x qual:Str} {st:Stmt} {f:Addr} {fd:FuncData} {N ps:List Str} {k:Nat} {φ:Env->Option Out} {body:List Stmt} {scope:Scope} {n:Nat} {m:List D->Option D} (F:FunX K x qual st f fd) (S:FnScope N ps (defScope st)) (hS:defScope st=scope) (hB:defBody st=body)
 (hbody:∀(cdv:Value)(A:Around)(outer:List PySem.Env)(s:Shared)(H:Hp)(E:XK),cdv=fd.code->Room k (A.deeper (PyProof.Rows.envOfC qual scope s.heap.objs.size f cdv)) ->
   ∃t,PSs (Yg CX0 P w K mg base N qual scope f cdv A outer s H E).nox body t/\∃owN,VS ⟨cA,λ_=>none⟩ [] owN [] [] t φ) (hm:m=run N.length φ) (hn:ps.length=n):FnOk P w K mg base CX0 (k+1) f fd ps (spD cA n m):=by
 subst hS hB hm hn;obtain⟨oc,od,dV,kV,doc,pm,an,cdv,ct,osl,rfl,lk,hcd⟩:=F.ex;refine JK lk hcd S (λvs H Q E h => ?_) λA outer s H vs Q E hr h => ?_
 · obtain⟨av,ds,d,_,r,hl,_⟩:=h
   rw [<-r.length,hl]
 · obtain⟨av,ds,d,ha,r,hl,hm,q⟩:=h
   obtain⟨t,ht,owN,hv⟩:=hbody cdv A outer s H E rfl hr;refine⟨t,ht.nox,?_⟩;unfold run at hm;cases hφ:φ (ds.map some++List.replicate (N.length-ds.length) none)with
   |none=>rw [hφ]at hm;cases hm
   |some o=>
    rw [hφ]at hm;refine hv H av _ _ H _ (QM ha r) o hφ _ ?_;cases o with
    |nx δ'=>cases hm;exact λA' σ' H' E'=>q .non H' E'.same rfl
    |rt d'=>cases hm;exact λv H' s' r'=>q v H' s' r'
    |bk δ'=>cases hm
    |ct δ'=>cases hm
end DL
namespace DL
open PySem PySem.Spec L2
theorem Vj(i j:Int):eqD (.int i) (.int j)=some (.bl (decide (i=j))):=by
 show(if(Zj (.int i)&&Zj (.int j)&&scal (V.int i) (V.int j))=true then some (D.bl (decide (V.int i=V.int j)))else _)=_;rw [if_pos (by rfl)];simp
theorem Zbu(a b:List Nat):eqD (.str a) (.str b)=some (.bl (decide (a=b))):=by
 show(if(Zj (.str a)&&Zj (.str b)&&scal (S a) (S b))=true then some (D.bl (decide (S a=S b)))else _)=_;rw [if_pos (by rfl)];simp only [Zi3]
theorem Zdx(a b:Bool):eqD (.bl a) (.bl b)=some (.bl (decide (a=b))):=by
 show(if(Zj (.bl a)&&Zj (.bl b)&&scal (V.bl a) (V.bl b))=true then some (D.bl (decide (V.bl a=V.bl b)))else _)=_;rw [if_pos (by rfl)];simp
theorem ZcU:eqD .non .non=some (.bl true):=rfl
theorem ZcV(i:Int):eqD .non (.int i)=some (.bl false):=by
 show(if(Zj .non&&Zj (.int i)&&scal V.non (V.int i))=true then some (D.bl (decide (V.non=V.int i)))else _)=_;rw [if_pos (by rfl)];simp
theorem ZcW(i:Int):eqD (.int i) .non=some (.bl false):=by
 show(if(Zj (.int i)&&Zj .non&&scal (V.int i) V.non)=true then some (D.bl (decide (V.int i=V.non)))else _)=_;rw [if_pos (by rfl)];simp
theorem UX(i j:Int):neD (.int i) (.int j)=some (.bl (!decide (i=j))):=by unfold neD;rw [Vj]
theorem Zdy(i j:List Nat):neD (.str i) (.str j)=some (.bl (!decide (i=j))):=by unfold neD;rw [Zbu]
theorem ZfH:neD .non .non=some (.bl false):=by unfold neD;rw [ZcU];rfl
theorem ZfI(i:Int):neD .non (.int i)=some (.bl true):=by unfold neD;rw [ZcV];rfl
theorem ZfJ(i:Int):neD (.int i) .non=some (.bl true):=by unfold neD;rw [ZcW];rfl
theorem VQ{γ:D->Env->Option Env}{φ:Env->Option Out}(I:Nat->Env->Prop):∀(xs:List D)(k:Nat)(δ:Env),I k δ ->
 (∀(j:Nat)x δ,xs[j]? = some x->I (k+j) δ->∃δ1,γ x δ=some δ1/\∃δ2,φ δ1=some (.nx δ2)/\I (k+j+1) δ2)->∃δ',ZR γ φ xs δ=some (.nx δ')/\I (k+xs.length) δ'
 | [],k,δ,h,_=>⟨δ,rfl,h⟩
 |x::xs,k,δ,h,step=>by
  obtain⟨δ1,h1,δ2,h2,h3⟩:=step 0 x δ rfl h
  obtain⟨δ',h4,h5⟩:=VQ I xs (k+1) δ2 h3 λj y δ hy hI=>by
   have:=step (j+1) y δ (by simpa using hy) (by rwa [show k+(j+1)=k+1+j by omega])
   rwa [show k+(j+1)+1=k+1+j+1 by omega]at this
  refine⟨δ',?_,by rwa [List.length_cons,show k+(xs.length+1)=k+1+xs.length by omega]⟩;unfold ZR;rw [h1];dsimp only;rw [h2];exact h4
theorem Ze9{lo c:Int}{n i:Nat}{x:D}(h:(ZO lo c n)[i]? = some x):i<n/\x = .int (lo+(i:Nat)*c):=by
 have hi:i<n:=by have:=(List.getElem?_eq_some_iff.mp h).1;simpa [ZO]using this
 unfold ZO at h;rw [List.getElem?_map,List.getElem?_range hi]at h;exact⟨hi,(Option.some.inj h).symm⟩
end DL
namespace DL
open PySem PySem.Spec L2
end DL
namespace DL
open PySem PySem.Spec L2
theorem Xz{i j:Int}(h:0<j):modD (.int i) (.int j)=some (.int (i % j)):=if_pos h
theorem Q0{i j:Int}(h:Xk i j):fdivD (.int i) (.int j)=some (.int (i / j)):=if_pos h
theorem Zag{i j:Int}(h1:0<j)(h2:j<1000000):Xk i j:=⟨h1,by omega⟩
end DL
namespace DL
open PySem PySem.Spec L2
theorem Zt{a b:Env->Option Out}{δ δ':Env}(h:a δ=some (.nx δ')):Ze a b δ=b δ':=by
 unfold Ze;rw [h]
theorem ZcX{a b:Env->Option Out}{δ:Env}{d:D}(h:a δ=some (.rt d)):Ze a b δ=some (.rt d):=by
 unfold Ze;rw [h]
theorem ZP{i:Nat}{e:Env->Option D}{δ:Env}{d:D}(h:e δ=some d):Zi i e δ=some (.nx (δ.set i (some d))):=by
 unfold Zi;rw [h]
theorem Y3{e:Env->Option D}{δ:Env}{d:D}(h:e δ=some d):ZD e δ=some (.rt d):=by
 unfold ZD;rw [h]
theorem XU{t:Env->Option Bool}{a b:Env->Option Out}{δ:Env}(h:t δ=some true):sIf t a b δ=a δ:=by
 unfold sIf;rw [h]
theorem Xg{t:Env->Option Bool}{a b:Env->Option Out}{δ:Env}(h:t δ=some false):sIf t a b δ=b δ:=by
 unfold sIf;rw [h]
theorem Yx{e:Env->Option D}{δ:Env}{b:Bool}(h:e δ=some (.bl b)):xB e δ=some b:=by
 unfold xB;rw [h];rfl
theorem UY{a b:Env->Option Bool}{δ:Env}{x:Bool}(h1:a δ=some true)(h2:b δ=some x):Ym a b δ=some x:=by
 unfold Ym;rw [h1];exact h2
theorem UZ{a b:Env->Option Bool}{δ:Env}(h1:a δ=some false):Ym a b δ=some false:=by
 unfold Ym;rw [h1]
theorem YR{n:Nat}{m:List D->Option D}{α:Env->Option (List D)}{δ:Env}{ds:List D}(h:α δ=some ds)(hn:ds.length=n):ZE n m [] α δ=m ds:=by
 unfold ZE;rw [h];dsimp only;rw [List.append_nil,if_pos hn]
theorem Zo{a:Env->Option D}{b:Env->Option (List D)}{δ:Env}{x:D}{xs:List D}(h1:a δ=some x)(h2:b δ=some xs):Zb a b δ=some (x::xs):=by
 unfold Zb;rw [h1,h2]
theorem Zs{f:D->D->Option D}{a b:Env->Option D}{δ:Env}{x y:D}(h1:a δ=some x)(h2:b δ=some y):eOp f a b δ=f x y:=by
 unfold eOp;rw [h1,h2]
theorem Zdz{a b:Env->Option D}{δ:Env}{x:D}(h1:a δ=some (.bl true))(h2:b δ=some x):Xn a b δ=some x:=by
 unfold Xn;rw [h1];exact h2
theorem ZcY{α:Env->Option (List D)}{δ:Env}{ds:List D}(h:α δ=some ds)(hl:ds.length<=1000):YM α δ=(some (.tup ds):Option D):=by
 unfold YM;rw [h];exact if_pos (Nat.le_trans hl (by decide))
theorem Ut{α:Env->Option (List D)}{δ:Env}{ds:List D}(h:α δ=some ds)(hl:ds.length<=1000):ZM α δ=(some (.lst ds):Option D):=by
 unfold ZM;rw [h];exact if_pos (Nat.le_trans hl (by decide))
theorem Zce {τ:Env->Option Bool} {φ:Env->Option Out} (I J:Env->Prop) (μ:Env->Nat)
 (step:∀δ,I δ->(τ δ=some false/\J δ)\/(τ δ=some true/\∃δ',φ δ=some (.nx δ')/\I δ'/\μ δ'<μ δ)) :
 ∀(k:Nat)(δ:Env),μ δ<=k->I δ->∃n δ',Yn τ φ n δ=some (.nx δ')/\J δ'
 |0,δ,hk,h=>by
  rcases step δ h with⟨h1,h2⟩|⟨h1,δ',h2,h3,h4⟩
  · exact⟨1,δ,by unfold Yn;rw [h1],h2⟩
  · omega
 |k+1,δ,hk,h=>by
  rcases step δ h with⟨h1,h2⟩|⟨h1,δ',h2,h3,h4⟩
  · exact⟨1,δ,by unfold Yn;rw [h1],h2⟩
  · obtain⟨n,δ2,h5,h6⟩:=Zce I J μ step k δ' (by omega) h3
    refine⟨n+1,δ2,?_,h6⟩;unfold Yn;rw [h1];dsimp only;rw [h2];exact h5
theorem Zah {τ:Env->Option Bool} {φ:Env->Option Out} (I J:Env->Prop) (μ:Env->Nat)
 (step:∀δ,I δ->(τ δ=some false/\J δ)\/(τ δ=some true/\∃δ',φ δ=some (.nx δ')/\I δ'/\μ δ'<μ δ)) (δ:Env) (h:I δ):∃δ',Yo τ φ δ=some (.nx δ')/\J δ':=by
 obtain⟨n,δ',h1,h2⟩:=Zce I J μ step (μ δ) δ (Nat.le_refl _) h;exact⟨δ',Zd1 h1,h2⟩
end DL
namespace DL
open PySem PySem.Spec L2
theorem XV{α:Env->Option (List D)}{δ:Env}{j:Int}(h:α δ=some [.int j])(h1 : -1000000<=j)(h2:j<=1000000):ZB α δ=some (ZO 0 1 j.toNat):=by
 unfold ZB;rw [h];dsimp only;rw [if_pos ⟨by omega,by omega⟩]
theorem ZfK{α:Env->Option (List D)}{δ:Env}{i j:Int}(h:α δ=some [.int i,.int j])(h1 : -1000000<=j)(h2:j<=1000000)(h3 : -1000000<=i)(h4:i<=1000000):ZB α δ=some (ZO i 1 (j-i).toNat):=by
 unfold ZB;rw [h];dsimp only;rw [if_pos ⟨by omega,by omega,by omega,by omega⟩]
theorem U0{i:Nat}{ε:Env->Option D}{δ:Env}{xs:List D}{d:D}(h1:Za i δ=some (.lst xs))(h2:ε δ=some d)(hl:xs.length<=1000000):Yj i ε δ=some (.nx (δ.set i (some (.lst (xs++[d]))))):=by
 unfold Yj;rw [h1];dsimp only;rw [h2];dsimp only;rw [if_pos (by rw [PySem.sizeLine_eq];omega)]
theorem U1{n j:Nat}{x:D}(h:(ZO 0 1 n)[j]? = some x):j<n/\x = .int (j:Nat):=by
 have hj:j<n:=by have:=(List.getElem?_eq_some_iff.mp h).1;simpa [ZO]using this
 refine⟨hj,?_⟩;unfold ZO at h;rw [List.getElem?_map,List.getElem?_range hj]at h;have:=Option.some.inj h;rw [<-this];show D.int (0+(j:Int)*1)=_;rw [show(0+(j:Int)*1)=j by omega]
theorem Q1(lo c:Int)(n:Nat):(ZO lo c n).length=n:=by simp [ZO]
theorem YF{ι:Env->Option (List D)}{γ:D->Env->Option Env}{φ:Env->Option Out}{δ:Env}{xs:List D}{o:Out}(h1:ι δ=some xs)(h2:ZR γ φ xs δ=some o):ZJ ι γ φ δ=some o:=by
 unfold ZJ;rw [h1];exact h2
theorem U2{ι:Env->Option (List D)}{γ:D->Env->Option Env}{τ:Env->Option Bool}{ε:Env->Option D}{n:Nat}{js:List Nat}{δ δ0:Env}{xs ys:List D}(h1:ι δ=some xs)(hb:Xr n δ js=δ0)(h2:YN γ τ ε δ0 xs=some ys)(hl:ys.length<=1000000):Yp ι γ τ ε n js δ=some (.lst ys):=by
 unfold Yp;rw [h1];dsimp only;rw [hb,h2];dsimp only;rw [if_pos (by rw [PySem.sizeLine_eq];omega)]
theorem YG{f:List D->Option D}{α:Env->Option (List D)}{δ:Env}{ds:List D}(h:α δ=some ds):eCB f α δ=f ds:=by
 unfold eCB;rw [h]
theorem XA{n:Nat}{f:Env->Option Out}{vs:List D}{δ:Env}{d:D}(h1:(vs.map some++List.replicate (n-vs.length) none)=δ)(h2:f δ=some (.rt d)):DL.run n f vs=some d:=by
 unfold DL.run;rw [h1,h2]
theorem nil_of{δ:Env}:eNil δ=some []:=rfl
theorem ZfL{t:List (String×Bool)}{a:Env->Option D}{δ:Env}{d:D}{b:Bool}(h1:a δ=some d)(h2:Uf t d=some b):Xs t a δ=some (.bl b):=by
 unfold Xs;rw [h1];dsimp only;rw [h2]
end DL
namespace DL
open PySem PySem.Spec L2
theorem Zfa{x:D}(hs:Zj x=false)(h:SeqAt.shaped (toP x)=true):eqD x x=some (.bl true):=by
 unfold eqD;rw [if_neg (by simp [hs]),h,if_pos (by rfl)];rw [SeqAt.eqv_refl _ (SeqAt.canLay_of_shaped h)]
theorem Zfb{x:D}(hs:Zj x=false)(h:SeqAt.shaped (toP x)=true):neD x x=some (.bl false):=by
 unfold neD;rw [Zfa hs h];rfl
end DL
namespace DL
open PySem PySem.Spec L2
theorem add_int(i j:Int):addX (.int i) (.int j)=some (.int (i+j)):=rfl
theorem Zek{i j:Int}(h1 : -1000<=j)(h2:j<=1000):mulX (.int i) (.int j)=some (.int (i*j)):=if_pos (.inr (.inr ⟨by omega,by omega⟩))
theorem Zbv{n a:Nat}(h:a<n):ixN n (a:Int)=some a:=by
 unfold ixN;rw [if_pos (by omega),if_pos (by omega),Int.toNat_natCast]
theorem VR{xs:List D}{a:Nat}{x:D}(h:xs[a]? = some x):ixD (.lst xs) (.int (a:Int))=some x:=JM h
theorem ix_tup{xs:List D}{a:Nat}{x:D}(h:xs[a]? = some x):ixD (.tup xs) (.int (a:Int))=some x:=JM h
theorem ZfM{i:Int}(h:0<=i):∃a:Nat,i=(a:Int):=⟨i.toNat,(Int.toNat_of_nonneg h).symm⟩
theorem U3(i:Int){m:Nat}(h:0<m):∃a:Nat,i % (m:Int)=(a:Int)/\a<m:=by
 obtain⟨a,ha⟩:=ZfM (Int.emod_nonneg i (show(m:Int)≠0 by omega));exact⟨a,ha,by have:=Int.emod_lt_of_pos i (b:=(m:Int)) (by omega);omega⟩
theorem ZaM(i:Int){m:Nat}(h:0<m):∃a:Nat,modD (.int i) (.int (m:Int))=some (.int (a:Int))/\a<m:=by
 obtain⟨a,ha,hm⟩:=U3 i h;exact⟨a,by rw [Xz (by omega),ha],hm⟩
theorem len_str{cs:List Nat}(h:cs.length<=100000):lenD [.str cs]=some (.int (cs.length:Int)):=if_pos (by rw [PySem.sizeLine_eq];omega)
theorem ZdA{xs:List D}:lenD [.lst xs]=some (.int (xs.length:Int)):=rfl
theorem Zbw{xs:List D}:lenD [.tup xs]=some (.int (xs.length:Int)):=rfl
theorem Zg3{c:String}{n:Nat}{m:List D->Option D}{α:Env->Option (List D)}{δ:Env}{ds:List D}(h:α δ=some ds)(hn:ds.length+1=n):Ve c n m [] α δ=m (.obj c [] []::ds):=by
 unfold Ve;rw [h];dsimp only;rw [List.append_nil,if_pos (by rw [List.length_cons];exact hn)]
end DL
namespace K17
open PySem PySem.Spec L2 DL
def Q2:List String:=["Rooms"]
def YS:List String:=["Rooms"]
def Q3:List (String×Bool):=[("NoneType",false),("bool",true),("int",false),("str",false),("list",false),("tuple",false),("Rooms",false)]
def Q4:List (String×Bool):=[("NoneType",false),("bool",true),("int",true),("str",false),("list",false),("tuple",false),("Rooms",false)]
noncomputable def f__wall:DL.Env->Option Out:=
 (Yo (xB (eC (.bl true))) sNext)
noncomputable def ZdB:List D->Option D:=run 1 f__wall
noncomputable def f_QH:DL.Env->Option Out:=
 (Ze (XO 0 Q2 "marks" (Za 1))
 (XO 0 YS "ways" (eCB Yi (Zb (Yp (Z6 (Za 2)) (Zp 0) (λ_=>some true) (eCB Yi (Zb (Za 0) eNil)) 1 []) eNil))))
noncomputable def Q5:List D->Option D:=runI 3 f_QH
noncomputable def f_QG:DL.Env->Option Out:=
 (ZD (eCB lenD (Zb (YC YS "ways" (Za 0)) eNil)))
noncomputable def ZiY:List D->Option D:=run 1 f_QG
noncomputable def f_Rooms_led:DL.Env->Option Out:=
 (QJ (ZE 1 ZdB [] (Zb (eC (.int 0)) eNil)))
noncomputable def f_Rooms_walked:DL.Env->Option Out:=
 (QJ (ZE 1 ZdB [] (Zb (eC (.int 1)) eNil)))
noncomputable def Q6:DL.Env->Option Out:=
 (Ze (Zi 2 (Up (eOp ixD (YC YS "ways" (Za 1)) (eOp ixD (Za 0) (eC (.int 0)))) (eOp ixD (YC YS "ways" (Za 1)) (eOp ixD (Za 0) (eC (.int 1))))))
 (ZD (Yp (Z6 (Za 2)) (Zp 0) (Ym (xB (eOp (inD true) (eC .non) (Za 0))) (xB (eOp neD (eOp ixD (Za 0) (eC (.int 0))) (eOp ixD (Za 0) (eC (.int 1)))))) (Za 0) 1 [])))
noncomputable def U4:List D->Option D:=run 3 Q6
noncomputable def f_QB:DL.Env->Option Out:=
 (Ze (Zi 3 (eC (.dtt [] [])))
 (Ze (Zi 4 (eCB UU (Zb (Za 0) eNil)))
 (Ze (Yo (xB (eOp (Y8 λi j=>decide (j<i)) (eCB lenD (Zb (Za 4) eNil)) (eC (.int 0)))) (Ze (Vi 5 4)
 (sIf (xB (eOp (VN true) (Za 5) (Za 3))) (Ze (Xe 3 (Za 5) (Xf 1 U4 (Zb (Za 5) eNil) (Zb (Za 2) eNil)))
 (Xd 4 (eOp VO (Za 3) (Za 5)))) sNext)))
 (ZD (Za 3)))))
noncomputable def Q7:List D->Option D:=ZiX 1 6 f_QB
noncomputable def U5:List D->Option D:=λds=>Lg.longD (Q7 ds)
noncomputable def Q8:MTab:=[("Rooms",1,ZiY)]
noncomputable def f_QN:DL.Env->Option Out:=
 (Ze (Zi 1 (Vf "many" Q8 (Za 0) eNil))
 (Ze (Zi 2 (ZM eNil))
 (Ze (ZJ (ZB (Zb (Za 1) eNil)) (Zp 3) (Xd 2 (Yp (ZB (Zb (eOp addX (Za 3) (eC (.int 1))) (Zb (Za 1) eNil))) (Zp 0) (λ_=>some true) (YM (Zb (Za 1) (Zb (Za 0) eNil))) 1 [3])))
 (QW 4 (ZD (Xf 1 U5 (Zb (Za 2) eNil) (Zb (Za 0) eNil)))))))
noncomputable def Q9:List D->Option D:=run 5 f_QN
noncomputable def f_QC:DL.Env->Option Out:=
 (Ze (sIf (xB (eOp (Y8 λi j=>decide (i<j)) (Za 1) (eCB lenD (Zb (Za 0) eNil)))) (ZD (eOp ixD (Za 0) (Za 1))) sNext)
 (ZD (eC (.int 0))))
noncomputable def Yu:List D->Option D:=run 2 f_QC
noncomputable def f_QI:DL.Env->Option Out:=
 (Ze (Zi 1 (ZM (Zb (eC (.str [48,49])) (Zb (eC (.str [97,98])) (Zb (eC (.str [120,121,122])) (Zb (eC (.str [48,97,49,98])) (Zb (eC (.str [98,97])) (Zb (eC (.str [57,122,56])) eNil))))))))
 (ZD (eOp ixD (Za 1) (eOp modD (Za 0) (eCB lenD (Zb (Za 1) eNil))))))
noncomputable def Ja:List D->Option D:=run 2 f_QI
noncomputable def f_QF:DL.Env->Option Out:=
 (Xu (YZ 4 (ZM eNil))
 (Xu (ZJ (ZB (Zb (Za 2) eNil)) (Zp 5) (Ze (ZK 4 (Zi 6 (ZM eNil)))
 (Ze (ZK 4 (ZJ (ZB (Zb (eCB lenD (Zb (Za 3) eNil)) eNil)) (Zp 7) (Ze (Zi 8 (ZE 2 Yu [] (Zb (Za 0) (Zb (eOp addX (eOp addX (Za 1) (eOp mulX (Za 5) (eCB lenD (Zb (Za 3) eNil)))) (Za 7)) eNil))))
 (Yj 6 (eOp ixD (ZM (Zb (eOp modD (Za 8) (Za 2)) (Zb (eC .non) eNil))) (eCB intD (Zb (eOp (Y8 λi j=>decide (j<i)) (eOp modD (eOp fdivD (Za 8) (Za 2)) (eC (.int 5))) (eC (.int 2))) eNil)))))))
 (VL 4 6))))
 (ZD (Za 4))))
noncomputable def U6:List D->Option D:=runF 9 f_QF
noncomputable def f_QE:DL.Env->Option Out:=
 (Ze (YZ 4 (ZE 4 U6 [] (Zb (Za 0) (Zb (Za 1) (Zb (Za 2) (Zb (Za 3) eNil))))))
 (Ze (ZK 4 (Zi 5 (eC (.dct [] []))))
 (Ze (ZJ (ZB (Zb (eC (.int 1)) (Zb (Za 2) eNil))) (Zp 6) (Ze (ZK 4 (Zi 7 (eOp modD (eOp fdivD (ZE 2 Yu [] (Zb (Za 0) (Zb (eOp addX (Za 1) (eOp mulX (Za 6) (eCB lenD (Zb (Za 3) eNil)))) eNil))) (eC (.int 60))) (eOp mulX (Za 6) (eCB lenD (Zb (Za 3) eNil))))))
 (Ze (ZK 4 (Yo (xB (eOp (inK false) (Za 7) (Za 5))) (Zi 7 (eOp modD (eOp addX (Za 7) (eC (.int 1))) (eOp mulX (Za 6) (eCB lenD (Zb (Za 3) eNil)))))))
 (Ze (ZK 4 (Xw 5 (Za 7) (eC (.bl true))))
 (XS 4 (eOp fdivD (Za 7) (eCB lenD (Zb (Za 3) eNil))) (eOp modD (Za 7) (eCB lenD (Zb (Za 3) eNil))) (Za 6))))))
 (Ze (ZJ (ZB (Zb (Za 2) eNil)) (Zp 6) (sIf (xB (eOp eqD (eLM lcountD (eOp ixD (Za 4) (Za 6)) (eC .non)) (eCB lenD (Zb (Za 3) eNil)))) (Ze (ZK 4 (Zi 8 (ZE 2 Yu [] (Zb (Za 0) (Zb (eOp addX (eOp addX (Za 1) (eOp mulX (Za 6) (eCB lenD (Zb (Za 3) eNil)))) (eC (.int 1))) eNil)))))
 (XS 4 (Za 6) (eOp modD (eOp fdivD (Za 8) (eC (.int 7))) (eCB lenD (Zb (Za 3) eNil))) (eOp modD (Za 8) (Za 2)))) sNext))
 (ZD (eCB Yi (Zb (Yp (Z6 (Za 4)) (Zp 0) (λ_=>some true) (eCB Yi (Zb (Za 0) eNil)) 1 []) eNil)))))))
noncomputable def Jb:List D->Option D:=run 9 f_QE
noncomputable def f_QD:DL.Env->Option Out:=
 (Ze (Zi 3 (ZM eNil))
 (Ze (ZJ (ZB (Zb (Za 1) eNil)) (Zp 4) (Ze (Zi 5 (ZM eNil))
 (Ze (ZJ (ZB (Zb (eCB lenD (Zb (Za 2) eNil)) eNil)) (Zp 6) (Ze (Zi 7 (ZE 2 Yu [] (Zb (Za 0) (Zb (eOp addX (eOp addX (eC (.int 3)) (eOp mulX (Za 4) (eCB lenD (Zb (Za 2) eNil)))) (Za 6)) eNil))))
 (Yj 5 (eOp ixD (ZM (Zb (eOp modD (eOp addX (Za 6) (Za 4)) (Za 1)) (Zb (eOp modD (Za 6) (Za 1)) (Zb (eOp modD (Za 6) (Za 1)) (Zb (eC .non) eNil))))) (eOp modD (Za 7) (eC (.int 4)))))))
 (Ze (sIf (xB (eOp eqD (eLM lcountD (Za 5) (eC .non)) (eCB lenD (Zb (Za 2) eNil)))) (UT 5 (eC (.int 0)) (eC (.int 0))) sNext)
 (Yj 3 (Za 5))))))
 (ZD (Za 3))))
noncomputable def Jc:List D->Option D:=run 8 f_QD
noncomputable def f_QK:DL.Env->Option Out:=
 (Ze (Zi 1 (ZM (Zb (eC (.int 0)) eNil)))
 (Ze (Zi 2 (eC (.int 0)))
 (Ze (Yo (xB (eOp (Y8 λi j=>decide (i<j)) (Za 2) (eCB lenD (Zb (Za 1) eNil)))) (Ze (ZJ (Z6 (eOp ixD (Za 0) (eOp ixD (Za 1) (Za 2)))) (Zp 3) (sIf (Ym (xB (Xa (Za 3))) (xB (eOp (inD true) (Za 3) (Za 1)))) (Yj 1 (Za 3)) sNext))
 (Zi 2 (eOp addX (Za 2) (eC (.int 1))))))
 (Ze (Zi 4 (ZM eNil))
 (Ze (ZJ (Z6 (Za 1)) (Zp 5) (Yj 4 (eCB Yi (Zb (Yp (Z6 (eOp ixD (Za 0) (Za 5))) (Zp 0) (λ_=>some true) (eIf (xB (Y9 (Za 0))) (eC .non) (eLM lindexD (Za 1) (Za 0))) 1 [1]) eNil))))
 (ZD (eCB Yi (Zb (Za 4) eNil))))))))
noncomputable def Jd:List D->Option D:=run 6 f_QK
noncomputable def f_QJ:DL.Env->Option Out:=
 (Ze (Zi 2 (eC (.dtt [] [])))
 (Ze (Us [2] 1 2 (Xb 3 (Xb 4 gsNil)) (ZJ (ZB (Zb (eCB lenD (Zb (eOp ixD (Za 0) (Za 3)) eNil)) eNil)) (Zp 5) (Ze (Zi 6 (YM (Zb (eOp ixD (eOp ixD (Za 0) (Za 3)) (Za 5)) (Zb (eOp ixD (eOp ixD (Za 0) (Za 4)) (Za 5)) eNil))))
 (sIf (Ym (xB (Xa (eOp ixD (Za 6) (eC (.int 0))))) (Ym (xB (Xa (eOp ixD (Za 6) (eC (.int 1))))) (xB (eOp neD (eOp ixD (Za 6) (eC (.int 0))) (eOp ixD (Za 6) (eC (.int 1))))))) (Xe 2 (Za 6) (eC (.bl true))) sNext))))
 (ZD (Za 2))))
noncomputable def Je:List D->Option D:=run 7 f_QJ
noncomputable def f_QL:DL.Env->Option Out:=
 (Ze (Zi 1 (eC (.dtt [] [])))
 (Ze (ZJ (ZB (Zb (eCB lenD (Zb (Za 0) eNil)) eNil)) (Zp 2) (ZJ (ZB (Zb (eCB lenD (Zb (Za 0) eNil)) eNil)) (Zp 3) (sIf (xB (eOp neD (Za 2) (Za 3))) (Xe 1 (YM (Zb (Za 2) (Zb (Za 3) eNil))) (eC (.bl true))) sNext)))
 (Ze (Zi 4 (eCB lenTD (Zb (Za 1) eNil)))
 (Ze (ZJ (ZB (Zb (eOp addX (Za 4) (eC (.int 1))) eNil)) (Zp 5) (Ze (sIf (xB (eOp eqD (eCB lenTD (Zb (Za 1) eNil)) (eC (.int 0)))) (ZD (Za 5)) sNext)
 (Zi 1 (ZE 2 Je [] (Zb (Za 0) (Zb (Za 1) eNil))))))
 (ZD (eC .non))))))
noncomputable def Jf:List D->Option D:=run 6 f_QL
noncomputable def f_QO:DL.Env->Option Out:=
 (Ze (Zi 1 (ZE 1 Ja [] (Zb (ZE 2 Yu [] (Zb (Za 0) (Zb (eC (.int 0)) eNil))) eNil)))
 (Ze (Zi 2 (eOp addX (eC (.int 1)) (eOp modD (ZE 2 Yu [] (Zb (Za 0) (Zb (eC (.int 1)) eNil))) (eC (.int 6)))))
 (Ze (Zi 3 (ZE 4 Jb [] (Zb (Za 0) (Zb (eC (.int 3)) (Zb (Za 2) (Zb (Za 1) eNil))))))
 (Ze (sIf (xB (eOp eqD (eOp modD (ZE 2 Yu [] (Zb (Za 0) (Zb (eC (.int 2)) eNil))) (eC (.int 2))) (eC (.int 1)))) (Zi 3 (ZE 1 Jd [] (Zb (ZE 3 Jc [] (Zb (Za 0) (Zb (Za 2) (Zb (Za 1) eNil)))) eNil))) sNext)
 (Ze (Zi 4 (Ve "Rooms" 3 Q5 [] (Zb (Za 1) (Zb (Za 3) eNil))))
 (Ze (Zi 5 (ZE 1 Q9 [] (Zb (Za 4) eNil)))
 (Ze (Zi 6 (ZE 1 Jf [] (Zb (Za 3) eNil)))
 (Ze (sIf (xB (eOp neD (YC YS "ways" (Za 4)) (Za 3))) (ZD (eC (.bl false))) sNext)
 (Ze (sIf (xB (Y9 (Za 6))) (ZD (Y9 (Za 5))) sNext)
 (ZD (Xn (Xs Q4 (Za 5)) (Xn (Vz (Xs Q3 (Za 5))) (eOp eqD (Za 5) (Za 6))))))))))))))
noncomputable def Jg:List D->Option D:=run 7 f_QO
end K17
namespace K17
open PySem PySem.Spec L2 DL
def top(i:Nat):Stmt:=PySem.Challenge.pw_grooveway_k17_what_rooms_remember.main.body.getD i (.Pass ⟨0,0,0,0⟩)
abbrev Vk:Stmt:=top 0
abbrev XB:Stmt:=Qp (top 2) 0
abbrev XW:Stmt:=Qp (top 2) 1
abbrev Vl:Stmt:=Qp (top 2) 2
abbrev Vm:Stmt:=Qp (top 2) 3
abbrev XX:Stmt:=top 4
abbrev XC:Stmt:=top 5
abbrev XD:Stmt:=top 6
abbrev XY:Stmt:=top 8
abbrev XZ:Stmt:=top 9
abbrev X0:Stmt:=top 10
abbrev XE:Stmt:=top 11
abbrev X1:Stmt:=top 12
abbrev XF:Stmt:=top 13
abbrev X2:Stmt:=top 14
abbrev X3:Stmt:=top 15
abbrev Y4:Stmt:=top 16
theorem Zji:FnScope ["self", "marks", "ways"] ["self", "marks", "ways"] (defScope XB):=⟨rfl,rfl,rfl,by decide +kernel,rfl,by decide +kernel,by decide +kernel⟩
theorem Zjj:FnScope ["self"] ["self"] (defScope XW):=⟨rfl,rfl,rfl,by decide +kernel,rfl,by decide +kernel,by decide +kernel⟩
theorem Zjk:FnScope ["begins", "followers", "$rooms", "found", "waiting", "one"] ["begins", "followers"] (defScope XX):=⟨rfl,rfl,rfl,by decide +kernel,rfl,by decide +kernel,by decide +kernel⟩
theorem Zjl:FnScope ["begins", "followers", "$rooms", "found", "left", "ahead", "one", "behind", "other", "last", "length", "gone", "earlier"] ["begins", "followers"] (defScope XC):=⟨rfl,rfl,rfl,by decide +kernel,rfl,by decide +kernel,by decide +kernel⟩
theorem Zjm:FnScope ["rooms", "many", "pairs", "one", "followers"] ["rooms"] (defScope XD):=⟨rfl,rfl,rfl,by decide +kernel,rfl,by decide +kernel,by decide +kernel⟩
theorem Zjn:FnScope ["script", "k"] ["script", "k"] (defScope XY):=⟨rfl,rfl,rfl,by decide +kernel,rfl,by decide +kernel,by decide +kernel⟩
theorem Zjo:FnScope ["cell", "some"] ["cell"] (defScope XZ):=⟨rfl,rfl,rfl,by decide +kernel,rfl,by decide +kernel,by decide +kernel⟩
theorem Zjp:FnScope ["script", "at", "many", "marks", "table", "room", "row", "k", "cell"] ["script", "at", "many", "marks"] (defScope X0):=⟨rfl,rfl,rfl,by decide +kernel,rfl,by decide +kernel,by decide +kernel⟩
theorem Zjq:FnScope ["script", "at", "many", "marks", "table", "taken", "room", "slot", "cell"] ["script", "at", "many", "marks"] (defScope XE):=⟨rfl,rfl,rfl,by decide +kernel,rfl,by decide +kernel,by decide +kernel⟩
theorem Zjr:FnScope ["script", "many", "marks", "table", "room", "row", "k", "cell"] ["script", "many", "marks"] (defScope X1):=⟨rfl,rfl,rfl,by decide +kernel,rfl,by decide +kernel,by decide +kernel⟩
theorem Zjs:FnScope ["table", "found", "at", "other", "ways", "room"] ["table"] (defScope XF):=⟨rfl,rfl,rfl,by decide +kernel,rfl,by decide +kernel,by decide +kernel⟩
theorem Zjt:FnScope ["ways", "pairs", "ahead", "one", "other", "k", "two"] ["ways", "pairs"] (defScope X2):=⟨rfl,rfl,rfl,by decide +kernel,rfl,by decide +kernel,by decide +kernel⟩
theorem Zju:FnScope ["ways", "pairs", "one", "other", "most", "length"] ["ways"] (defScope X3):=⟨rfl,rfl,rfl,by decide +kernel,rfl,by decide +kernel,by decide +kernel⟩
theorem Zjv:FnScope ["script", "marks", "many", "ways", "rooms", "found", "due"] ["script"] (defScope Y4):=⟨rfl,rfl,rfl,by decide +kernel,rfl,by decide +kernel,by decide +kernel⟩
abbrev YH:Stmt:=Zje (top 6) 3
theorem Zaa:CloScope ["pair", "rooms", "ends"] ["pair"] ["rooms"] (defScope YH):=⟨rfl,rfl,rfl,by decide +kernel,rfl,by decide +kernel,by decide +kernel,by decide +kernel⟩
structure Adr where
 p_memory_followers:Addr
 a__wall:Addr
 d__wall:FuncData
 a_QH:Addr
 d_QH:FuncData
 a_QG:Addr
 d_QG:FuncData
 a_Rooms_led:Addr
 d_Rooms_led:FuncData
 a_Rooms_walked:Addr
 d_Rooms_walked:FuncData
 a_QB:Addr
 d_QB:FuncData
 a_QM:Addr
 d_QM:FuncData
 a_QN:Addr
 d_QN:FuncData
 a_QC:Addr
 d_QC:FuncData
 a_QI:Addr
 d_QI:FuncData
 a_QF:Addr
 d_QF:FuncData
 a_QE:Addr
 d_QE:FuncData
 a_QD:Addr
 d_QD:FuncData
 a_QK:Addr
 d_QK:FuncData
 a_QJ:Addr
 d_QJ:FuncData
 a_QL:Addr
 d_QL:FuncData
 a_QO:Addr
 d_QO:FuncData
 c_Rooms:Addr
def Adr.c(t:Adr):String->Addr:=λc=>if c = "Rooms" then t.c_Rooms else 0
structure Txt(K:PySem.W.Frag)(mg:Str->Option Value)(t:Adr):Prop where
 f__wall:FunX K "_wall" "_wall" Vk t.a__wall t.d__wall
 b__wall:Binds K t.d__wall ["k"] []
 g__wall:mg "_wall" = some (.ref t.a__wall)
 k__wall:keepIn K (.ref t.a__wall)=true
 f_QH:FunX K "__init__" "Rooms.__init__" XB t.a_QH t.d_QH
 b_QH:Binds K t.d_QH ["self", "marks", "ways"] []
 k_QH:keepIn K (.ref t.a_QH)=true
 f_QG:FunX K "many" "Rooms.many" XW t.a_QG t.d_QG
 b_QG:Binds K t.d_QG ["self"] []
 k_QG:keepIn K (.ref t.a_QG)=true
 f_Rooms_led:FunX K "led" "Rooms.led" Vl t.a_Rooms_led t.d_Rooms_led
 b_Rooms_led:Binds K t.d_Rooms_led ["self", "room", "mark"] []
 k_Rooms_led:keepIn K (.ref t.a_Rooms_led)=true
 f_Rooms_walked:FunX K "walked" "Rooms.walked" Vm t.a_Rooms_walked t.d_Rooms_walked
 b_Rooms_walked:Binds K t.d_Rooms_walked ["self", "room", "row"] []
 k_Rooms_walked:keepIn K (.ref t.a_Rooms_walked)=true
 f_QB:FunX K "all_followers" "all_followers" XX t.a_QB t.d_QB
 b_QB:Binds K t.d_QB ["begins", "followers"] []
 g_QB:mg "all_followers" = some (.ref t.a_QB)
 k_QB:keepIn K (.ref t.a_QB)=true
 f_QM:FunX K "longest" "longest" XC t.a_QM t.d_QM
 b_QM:Binds K t.d_QM ["begins", "followers"] []
 g_QM:mg "longest" = some (.ref t.a_QM)
 k_QM:keepIn K (.ref t.a_QM)=true
 f_QN:FunX K "memory" "memory" XD t.a_QN t.d_QN
 b_QN:Binds K t.d_QN ["rooms"] []
 g_QN:mg "memory" = some (.ref t.a_QN)
 k_QN:keepIn K (.ref t.a_QN)=true
 f_QC:FunX K "_law_cell_at" "_law_cell_at" XY t.a_QC t.d_QC
 b_QC:Binds K t.d_QC ["script", "k"] []
 g_QC:mg "_law_cell_at" = some (.ref t.a_QC)
 k_QC:keepIn K (.ref t.a_QC)=true
 f_QI:FunX K "_law_marks" "_law_marks" XZ t.a_QI t.d_QI
 b_QI:Binds K t.d_QI ["cell"] []
 g_QI:mg "_law_marks" = some (.ref t.a_QI)
 k_QI:keepIn K (.ref t.a_QI)=true
 f_QF:FunX K "_law_table" "_law_table" X0 t.a_QF t.d_QF
 b_QF:Binds K t.d_QF ["script", "at", "many", "marks"] []
 g_QF:mg "_law_table" = some (.ref t.a_QF)
 k_QF:keepIn K (.ref t.a_QF)=true
 f_QE:FunX K "_law_living" "_law_living" XE t.a_QE t.d_QE
 b_QE:Binds K t.d_QE ["script", "at", "many", "marks"] []
 g_QE:mg "_law_living" = some (.ref t.a_QE)
 k_QE:keepIn K (.ref t.a_QE)=true
 f_QD:FunX K "_law_by_mark" "_law_by_mark" X1 t.a_QD t.d_QD
 b_QD:Binds K t.d_QD ["script", "many", "marks"] []
 g_QD:mg "_law_by_mark" = some (.ref t.a_QD)
 k_QD:keepIn K (.ref t.a_QD)=true
 f_QK:FunX K "_law_met" "_law_met" XF t.a_QK t.d_QK
 b_QK:Binds K t.d_QK ["table"] []
 g_QK:mg "_law_met" = some (.ref t.a_QK)
 k_QK:keepIn K (.ref t.a_QK)=true
 f_QJ:FunX K "_law_next" "_law_next" X2 t.a_QJ t.d_QJ
 b_QJ:Binds K t.d_QJ ["ways", "pairs"] []
 g_QJ:mg "_law_next" = some (.ref t.a_QJ)
 k_QJ:keepIn K (.ref t.a_QJ)=true
 f_QL:FunX K "_law_due" "_law_due" X3 t.a_QL t.d_QL
 b_QL:Binds K t.d_QL ["ways"] []
 g_QL:mg "_law_due" = some (.ref t.a_QL)
 k_QL:keepIn K (.ref t.a_QL)=true
 f_QO:FunX K "law" "law" Y4 t.a_QO t.d_QO
 b_QO:Binds K t.d_QO ["script"] []
 g_QO:mg "law" = some (.ref t.a_QO)
 k_QO:keepIn K (.ref t.a_QO)=true
 tb_memory_followers:(t.p_memory_followers,("memory.<locals>.followers" : Str))∈X4 K
 nk_memory_followers:∃c0,t.d_QN.code = .ref c0/\NestK K mg c0 t.p_memory_followers
 n_bool:mg "bool" = none
 n_int:mg "int" = none
 n_isinstance:mg "isinstance" = none
 n_len:mg "len" = none
 n_list:mg "list" = none
 n_range:mg "range" = none
 n_tuple:mg "tuple" = none
 n_zip:mg "zip" = none
 g_Rooms:mg "Rooms" = some (.ref t.c_Rooms)
 cl_Rooms:Cls K t.c_Rooms
 ci_Rooms:ClsI K t.c_Rooms
 mk_Rooms:Mk K t.c_Rooms t.a_QH
 fl_marks:QN K ⟨t.c,K⟩ Q2 "marks"
 fl_ways:QN K ⟨t.c,K⟩ YS "ways"
 me_Rooms_many:Meth K t.c_Rooms (Str.ofString "many") t.a_QG
 isi_bool:IsiOk K ⟨t.c,K⟩ (.type "bool") Q3
 isi_int:IsiOk K ⟨t.c,K⟩ (.type "int") Q4
end K17
namespace K17
open PySem PySem.W L2 HT
def kP:Params->PySem.W.Frag:=λP=>
 (nat_lit 2,dO .none [] 0) ::
 (nat_lit 3,dO (.type "dict") [de P "__name__" 165 (.str "law_grooveway_k17_what_rooms_remember" 274),de P "__doc__" 166 .none,de P "__package__" 167 .none,de P "__loader__" 168 (.builtin "__main__.__loader__#opaque"),de P "__spec__" 169 .none,de P "__annotations__" 170 (.ref 6),de P "__builtins__" 171 (.ref 4),de P "__file__" 173 (.str "/claim/cut.py" 172),de P "__cached__" 174 .none,de P "_wall" 193 (.ref 21),de P "Rooms" 248 (.ref 57),de P "all_followers" 261 (.ref 68),de P "longest" 267 (.ref 73),de P "memory" 273 (.ref 78),de P "_law_cell_at" 283 (.ref 85),de P "_law_marks" 291 (.ref 92),de P "_law_table" 306 (.ref 99),de P "_law_living" 312 (.ref 104),de P "_law_by_mark" 326 (.ref 111),de P "_law_met" 332 (.ref 116),de P "_law_next" 345 (.ref 123),de P "_law_due" 357 (.ref 130),de P "law" 370 (.ref 137)] 23) ::
 (nat_lit 6,dO (.type "dict") [] 0) ::
 (nat_lit 20,c3 "_wall" "_wall" 187 1 1 3 15 16 (.ref 17) (.ref 18) 19 191 192) ::
 (nat_lit 21,f3 "_wall" "_wall" Vk "__main__" 164 20) ::
 (nat_lit 32,c3 "__init__" "Rooms.__init__" 208 7 3 3 29 30 .none .none 31 211 212) ::
 (nat_lit 33,f3 "__init__" "Rooms.__init__" XB "grooveway.rooms" 194 32) ::
 (nat_lit 39,c3 "many" "Rooms.many" 214 11 1 3 34 35 (.ref 36) (.ref 37) 38 218 219) ::
 (nat_lit 40,f3 "many" "Rooms.many" XW "grooveway.rooms" 194 39) ::
 (nat_lit 46,c3 "led" "Rooms.led" 221 14 3 3 41 42 (.ref 43) (.ref 44) 45 227 228) ::
 (nat_lit 47,f3 "led" "Rooms.led" Vl "grooveway.rooms" 194 46) ::
 (nat_lit 53,c3 "walked" "Rooms.walked" 230 17 3 3 48 49 (.ref 50) (.ref 51) 52 236 237) ::
 (nat_lit 54,f3 "walked" "Rooms.walked" Vm "grooveway.rooms" 194 53) ::
 (nat_lit 56,dO (.type "dict") [de P "__module__" 203 (.str "grooveway.rooms" 194),de P "__firstlineno__" 207 (.int 5 206),de P "__init__" 213 (.ref 33),de P "many" 220 (.ref 40),de P "led" 229 (.ref 47),de P "walked" 238 (.ref 54),de P "__static_attributes__" 241 (.ref 55),de P "__dict__" 243 (.ref 58),de P "__weakref__" 245 (.ref 59),de P "__doc__" 246 .none] 4) ::
 (nat_lit 57,⟨(.type "type"),none,.cls ⟨"Rooms",[(.type "object")],[(.ref 57),(.type "object")],56, "Rooms",true,[],[],false,none,false⟩,#[none,none,some (.str "Rooms" 196),some (.str "Rooms" 204),some (.builtin "object.__new__"),some (.bool true)]⟩) ::
 (nat_lit 58,⟨(.type "getset_descriptor"),none,.fields #[(.str "__dict__" 242),(.ref 57),(.builtin "function.__dict__"),(.builtin "function.__dict__#set")],#[]⟩) ::
 (nat_lit 59,⟨(.type "getset_descriptor"),none,.fields #[(.str "__weakref__" 244),(.ref 57),(.builtin "ExceptionGroup.__weakref__"),.none],#[]⟩) ::
 (nat_lit 67,c3 "all_followers" "all_followers" 251 20 2 3 62 63 (.ref 64) (.ref 65) 66 259 260) ::
 (nat_lit 68,f3 "all_followers" "all_followers" XX "grooveway.least" 249 67) ::
 (nat_lit 72,c3 "longest" "longest" 262 29 2 3 69 70 .none .none 71 265 266) ::
 (nat_lit 73,f3 "longest" "longest" XC "grooveway.least" 249 72) ::
 (nat_lit 77,c3 "memory" "memory" 268 51 1 3 74 75 .none .none 76 271 272) ::
 (nat_lit 78,f3 "memory" "memory" XD "grooveway.least" 249 77) ::
 (nat_lit 84,c3 "_law_cell_at" "_law_cell_at" 276 62 2 3 79 80 (.ref 81) (.ref 82) 83 281 282) ::
 (nat_lit 85,f3 "_law_cell_at" "_law_cell_at" XY "law_grooveway_k17_what_rooms_remember" 274 84) ::
 (nat_lit 91,c3 "_law_marks" "_law_marks" 284 66 1 3 86 87 (.ref 88) (.ref 89) 90 289 290) ::
 (nat_lit 92,f3 "_law_marks" "_law_marks" XZ "law_grooveway_k17_what_rooms_remember" 274 91) ::
 (nat_lit 98,c3 "_law_table" "_law_table" 292 69 4 3 93 94 (.ref 95) (.ref 96) 97 304 305) ::
 (nat_lit 99,f3 "_law_table" "_law_table" X0 "law_grooveway_k17_what_rooms_remember" 274 98) ::
 (nat_lit 103,c3 "_law_living" "_law_living" 307 78 4 3 100 101 .none .none 102 310 311) ::
 (nat_lit 104,f3 "_law_living" "_law_living" XE "law_grooveway_k17_what_rooms_remember" 274 103) ::
 (nat_lit 110,c3 "_law_by_mark" "_law_by_mark" 313 92 3 3 105 106 (.ref 107) (.ref 108) 109 324 325) ::
 (nat_lit 111,f3 "_law_by_mark" "_law_by_mark" X1 "law_grooveway_k17_what_rooms_remember" 274 110) ::
 (nat_lit 115,c3 "_law_met" "_law_met" 327 103 1 3 112 113 .none .none 114 330 331) ::
 (nat_lit 116,f3 "_law_met" "_law_met" XF "law_grooveway_k17_what_rooms_remember" 274 115) ::
 (nat_lit 122,c3 "_law_next" "_law_next" 333 115 2 3 117 118 (.ref 119) (.ref 120) 121 343 344) ::
 (nat_lit 123,f3 "_law_next" "_law_next" X2 "law_grooveway_k17_what_rooms_remember" 274 122) ::
 (nat_lit 129,c3 "_law_due" "_law_due" 346 123 1 3 124 125 (.ref 126) (.ref 127) 128 355 356) ::
 (nat_lit 130,f3 "_law_due" "_law_due" X3 "law_grooveway_k17_what_rooms_remember" 274 129) ::
 (nat_lit 136,c3 "law" "law" 358 135 1 3 131 132 (.ref 133) (.ref 134) 135 368 369) ::
 (nat_lit 137,f3 "law" "law" Y4 "law_grooveway_k17_what_rooms_remember" 274 136) ::
 (nat_lit 4,⟨(.type "module"),some 0,.plain,#[]⟩) ::
 (nat_lit 3,⟨(.str "memory.<locals>.followers" 0),some 75,.plain,#[]⟩)::[]
abbrev kA:Params->PySem.W.Frag:=λP=>(kP P).dropLast++[(75,tabObj #[])]
set_option maxHeartbeats 0 in
theorem Zjw:met PySem.Challenge.pw_grooveway_k17_what_rooms_remember=true:=by k_qdec
set_option maxHeartbeats 0 in
theorem Zjx:met kP=true:=by k_qdec
set_option maxHeartbeats 0 in
theorem left:LeftO PySem.Challenge.pw_grooveway_k17_what_rooms_remember (view PySem.Challenge.pw_grooveway_k17_what_rooms_remember [0,2,4,5,6,8,9,10,11,12,13,14,15,16]) [] (λs=>xlAt (view PySem.Challenge.pw_grooveway_k17_what_rooms_remember [0,2,4,5,6,8,9,10,11,12,13,14,15,16]) [] s&&recOk PySem.Challenge.rw_grooveway_k17_what_rooms_remember.row.toRowW.records s) (λs=>([2,3,6,20,21,32,33,39,40,46,47,53,54,56,57,58,59,67,68,72,73,77,78,84,85,91,92,98,99,103,104,110,111,115,116,122,123,129,130,136,137,4,75]:List Addr).map s.heap.get?) (λw=>((kP w.params).dropLast++[(75,tabObj #[])]:PySem.W.Frag).map λp=>some p.2) 1618:=
 HT.left_of rfl rfl (λ_=>rfl) λw=>by
  have _:=Zjw;have _:=Zjx;rewrite [PySem.W.Fast.te10732374325825190641,PySem.W.Fast.te123304693429780503,PySem.W.Fast.te5923862056798008813,PySem.W.Fast.te4187177175401517315,PySem.W.Fast.te6613529449190102663,PySem.W.Fast.te10156331382660048174,PySem.W.Fast.te11892475500146522536,PySem.W.Fast.te14364793385576792824]
  kernel_rfl
theorem kA_as:∀P,([2,3,6,20,21,32,33,39,40,46,47,53,54,56,57,58,59,67,68,72,73,77,78,84,85,91,92,98,99,103,104,110,111,115,116,122,123,129,130,136,137,4,75]:List Addr)=(kA P).map (·.1):=λ_=>by kernel_rfl
theorem kP_tabs:∀P,X4 (kP P)=[(75,("memory.<locals>.followers" : Str))]:=λ_=>by kernel_rfl
end K17
namespace K17
open PySem PySem.Spec PyProof.Rows L2 DL
theorem nd0:List.Nodup (["own"]:List Str):=by decide +kernel
theorem nd1:List.Nodup (["pair", "rooms", "ends"]:List Str):=by decide +kernel
theorem nd2:List.Nodup (["end"]:List Str):=by decide +kernel
theorem nd3:List.Nodup (["begins", "followers", "$rooms", "found", "waiting", "one"]:List Str):=by decide +kernel
theorem nd4:List.Nodup (["begins", "followers", "$rooms", "found", "left", "ahead", "one", "behind", "other", "last", "length", "gone", "earlier"]:List Str):=by decide +kernel
theorem nd5:List.Nodup (["one", "left"]:List Str):=by decide +kernel
theorem nd6:List.Nodup (["rooms", "many", "pairs", "one", "followers"]:List Str):=by decide +kernel
theorem nd7:List.Nodup (["other", "one"]:List Str):=by decide +kernel
theorem nd8:List.Nodup (["cell", "some"]:List Str):=by decide +kernel
theorem nd9:List.Nodup (["script", "at", "many", "marks", "table", "room", "row", "k", "cell"]:List Str):=by decide +kernel
theorem VU:List.Nodup (["script", "at", "many", "marks", "table", "taken", "room", "slot", "cell"]:List Str):=by decide +kernel
theorem ZkA:List.Nodup (["row"]:List Str):=by decide +kernel
theorem U7:List.Nodup (["script", "many", "marks", "table", "room", "row", "k", "cell"]:List Str):=by decide +kernel
theorem Uu:List.Nodup (["table", "found", "at", "other", "ways", "room"]:List Str):=by decide +kernel
theorem ZkB:List.Nodup (["other", "found"]:List Str):=by decide +kernel
theorem U8:List.Nodup (["ways", "pairs", "ahead", "one", "other", "k", "two"]:List Str):=by decide +kernel
theorem Uv:List.Nodup (["ways", "pairs", "one", "other", "most", "length"]:List Str):=by decide +kernel
theorem VV:List.Nodup (["script", "marks", "many", "ways", "rooms", "found", "due"]:List Str):=by decide +kernel
theorem vc{G:Cn}{ow:List Nat}(d:D)(hs:Zj d=true:=by rfl):VE G ow (tC (val d)) .cl (eC d):=Zr hs rfl
section
variable{P:Program}{w:World}{K:PySem.W.Frag}{mg:Str->Option Value}{base:Heap}{t:Adr}
theorem Zjy(T:Txt K mg t):FnOk P w K mg base CX0 1 t.a_QH t.d_QH ["self", "marks", "ways"] (spI ⟨t.c,K⟩ 3 Q5):=by
 refine Zi9 (φ:=f_QH) T.f_QH Zji (by conv=>lhs;whnf) (by conv=>lhs;whnf) (λcdv A outer s H E self hr => ?_) rfl rfl;refine⟨_,(Zn (Zfk (pv 0) (pv 1) (by rfl))
 (Zu (Zfk (pv 0) (X7 (V6 (K:=K)) (by rfl) T.n_tuple boot_tuple (Zf (UC (by rfl) (CompSc.mk' (tn:=["own"]) (cn:=[]) (js:=[]) (osc:=defScope XB) (oN:=["self", "marks", "ways"]) (by rfl) (by rfl) (by rfl) (by decide +kernel)) (XM (K:=K) (pv 2)) (λC s₂ H₂ fp=>ZU (i:=0) nd0) (λC s₂ H₂ fp=>Qr) (λC s₂ H₂ fp=>(X7 (V6 (K:=K)) (by rfl) T.n_tuple boot_tuple (Zf (pv 0) Zg)))) Zg)) (by rfl)))),?_⟩
 unfold f_QH;exact(ZA (Zfv 0 (by rfl) T.fl_marks (Zd 1))
 (Zfv 0 (by rfl) T.fl_ways (Ub (Zh (VF.cl (US (by rfl) (Ue (Zd 2)) (Yw 0) QG (Ub (Zh (Zd 0) Zl)))) Zl))))
theorem Zjz(T:Txt K mg t):FnOk P w K mg base CX0 1 t.a_QG t.d_QG ["self"] (spD ⟨t.c,K⟩ 1 ZiY):=by
 refine XQ (φ:=f_QG) T.f_QG Zjj (by conv=>lhs;whnf) (by conv=>lhs;whnf) (λcdv A outer s H E hr => ?_) rfl rfl;refine⟨_,(Zu (Yd (ZQ (Z1 (K:=K)) (by rfl) T.n_len boot_len (Zf (Qw (K:=K) (pv 0)) Zg)))),[],?_⟩;unfold f_QG;exact(Yv (Z2 Z5 (Zh (QO T.fl_ways (Zd 0)) Zl)))
theorem ZjA (T:Txt K mg t) {p c:Addr} {fo:Obj} {cl:List (Str×Addr)} {v1:V} (hf:base.get? p=some fo) {doc pm ct:Value} (hd:fo.data = .func (PySem.W.fnX "followers" "memory.<locals>.followers" (defArgs YH) (defBody YH) (defScope YH) cl .none .none doc pm none (.ref c) ct)) (C:Caps base cl ["rooms"] [v1]):FnOk P w K mg base CX0 1 p (PySem.W.fnX "followers" "memory.<locals>.followers" (defArgs YH) (defBody YH) (defScope YH) cl .none .none doc pm none (.ref c) ct) ["pair"] (spC ⟨t.c,K⟩ c "memory.<locals>.followers" [v1] 1 U4):=by
 refine ZgV (φ:=Q6) hf hd Zaa C (by conv=>lhs;whnf) (by conv=>lhs;whnf) (λA outer s H hr => ?_) rfl rfl;refine⟨_,(Zn (Zx (i:=2) nd1 (by rfl) (by first|exact Or.inl rfl|exact Or.inr rfl) (ZbP (K:=K) (by rfl) (by rfl) T.n_list (by rfl) T.n_zip (ZX (ZY (K:=K)) (Qw (K:=K) (pv 1)) (ZX (ZY (K:=K)) (pv 0) Zy (λ_ _=>rfl)) (λ_ _=>rfl)) (ZX (ZY (K:=K)) (Qw (K:=K) (pv 1)) (ZX (ZY (K:=K)) (pv 0) Zy (λ_ _=>rfl)) (λ_ _=>rfl))))
 (Zu (Yd (UC (by rfl) (CompSc.mk' (tn:=["end"]) (cn:=[]) (js:=[]) (osc:=defScope YH) (oN:=["pair", "rooms", "ends"]) (by rfl) (by rfl) (by rfl) (by decide +kernel)) (XM (K:=K) (pv 2)) (λC s₂ H₂ fp=>ZU (i:=0) nd2) (λC s₂ H₂ fp=>(Zda (PW.pt (Qc (Yl (ZbY (K:=K)) X5 (pv 0) (by rfl)) (Jx (Yl (QB (cA:=⟨t.c,K⟩) (hr.units)) (ZX (ZY (K:=K)) (pv 0) Zy (λ_ _=>rfl)) (ZX (ZY (K:=K)) (pv 0) Zy (λ_ _=>rfl)) (Yk _))))))) (λC s₂ H₂ fp=>(pv 0)))))),[],?_⟩
 unfold Q6;exact(ZA (show VS _ _ [] _ _ _ _ from(Z8 2 (VF.cl (ZbQ (Zk Z3 (QO T.fl_ways (Zd 1)) (Zk Z3 (Zd 0) (Zr (d:=(.int 0)) (by rfl) (by rfl)))) (Zk Z3 (QO T.fl_ways (Zd 1)) (Zk Z3 (Zd 0) (Zr (d:=(.int 1)) (by rfl) (by rfl))))))))
 (Yv (VF.cl (US (by rfl) (Ue (Zd 2)) (Yw 0) (QF (YL (Zk Zhw (Zr (d:=.non) (by rfl) (by rfl)) (Zd 0))) (YL (Zk QC (Zk Z3 (Zd 0) (Zr (d:=(.int 0)) (by rfl) (by rfl))) (Zk Z3 (Zd 0) (Zr (d:=(.int 1)) (by rfl) (by rfl)))))) (Zd 0)))))
theorem ZjB (T:Txt K mg t) {p c:Addr} {fo:Obj} {cl:List (Str×Addr)} {v1:V} (hf:base.get? p=some fo) {doc pm ct:Value} (hd:fo.data = .func (PySem.W.fnX "followers" "memory.<locals>.followers" (defArgs YH) (defBody YH) (defScope YH) cl .none .none doc pm none (.ref c) ct)) (C:Caps base cl ["rooms"] [v1]):FnOk P w K mg base CX0 2 t.a_QB t.d_QB ["begins", "followers"] (spF ⟨t.c,K⟩ p c "memory.<locals>.followers" [v1] 1 1 Q7):=by
 have G_QA:=(ZjA (P:=P) (w:=w) T hf hd C).mono (show 1<=1 by decide);refine Zkz (j:=1) (n:=1) (l:=[none,some (.ref p),some v1]) (φ:=f_QB) T.f_QB Zjk (by conv=>lhs;whnf) (by conv=>lhs;whnf) rfl (by decide) rfl (by show 3<=6;decide) (λi y h1 h2 h3 => ?_) (λcdv A outer s H E oc hoc hr => ?_) rfl
 · have h2:i<3:=h2
   have:i=2:=by omega
   rcases this with rfl<;>(cases h3;intro z;rcases z with z|z|z<;>exact absurd z (by decide +kernel))
 refine⟨_,(Zn (Zx (i:=3) nd3 (by rfl) (by first|exact Or.inl rfl|exact Or.inr rfl) UI)
 (Zn (Zx (i:=4) nd3 (by rfl) (by first|exact Or.inl rfl|exact Or.inr rfl) (X7 (Zcz (K:=K)) (by rfl) T.n_list boot_list (Zf (pv 0) Zg)))
 (Zn ((Qh PassesOwn.never (Yl JF (ZQ (Z1 (K:=K)) (by rfl) T.n_len boot_len (Zf (pv 4) Zg)) Zy (Yk _)) (Zn (Zx (i:=5) nd3 (by rfl) (by first|exact Or.inl rfl|exact Or.inr rfl) (Zjd (K:=K) PySem.F.plainAttrs_list PySem.F.slot_list_pop PySem.F.type_list_pop ZhZ (pv 4)))
 (Zu (YV (Vo (Zd0 (YD hr.units) (pv 5) (pv 3))) (Zn (V8 (YD hr.units) (pv 3) (pv 5) (ZeS (i:=1) G_QA hr hf hd hoc (Binds.all λus hl=>match us,hl with|[_],_=>rfl) (by rfl) (by first|exact Or.inl rfl|exact Or.inr (Or.inl rfl)) (Zf (pv 5) Zg)) (by rfl))
 (Zu (Xh (YK (K:=K) PySem.F.plainAttrs_list PySem.F.slot_list_extend PySem.F.type_list_extend Zg1 (pv 4) (Zf (Qy (YD hr.units) (pv 3) (pv 5) (λ_ _=>rfl)) Zg))))) YU)))))
 (Zu (Yd (pv 3)))))),[],?_⟩
 unfold f_QB;exact(ZA (show VS _ _ [3] _ _ _ _ from ZaI 3 ZaK (by rfl) (by rfl) (by rfl) (by rfl))
 (ZA (show VS _ _ [3,4] _ _ _ _ from(VB 4 (ZeE (Or.inl rfl) (Zh (Zd 0) Zl))))
 (ZA (J7 (ow:=[3,4]) (YL (Zk QE (Z2 Z5 (Zh (Vb 4 (by rfl)) Zl)) (Zr (d:=(.int 0)) (by rfl) (by rfl)))) (ZA (show VS _ _ [3,4] _ _ _ _ from Zig 5 4 (by rfl) (by rfl) (by rfl) (by rfl) (by rfl))
 (Xp (Vy (ZcD (Zd 5) (Vb 3 (by rfl)))) (ZA (ZaJ 3 (by rfl) (ZeY (i:=1) (by rfl) (ZeW (j:=2) (by rfl) (by rfl) ZgR) (Zh (Zd 5) Zl)) (Zd 5))
 (Zg2 4 (by rfl) (ZeP (Or.inr rfl) (Vb 3 (by rfl)) (Zd 5)))) Xo)))
 (VS.frz (ow1:=[3]) 4 (VS.frz (ow1:=[]) 3 (Yv (Zd 3)))))))
theorem ZjC (T:Txt K mg t) {p c:Addr} {fo:Obj} {cl:List (Str×Addr)} {v1:V} (hf:base.get? p=some fo) {doc pm ct:Value} (hd:fo.data = .func (PySem.W.fnX "followers" "memory.<locals>.followers" (defArgs YH) (defBody YH) (defScope YH) cl .none .none doc pm none (.ref c) ct)) (C:Caps base cl ["rooms"] [v1]):FnOk P w K mg base CX0 3 t.a_QM t.d_QM ["begins", "followers"] (spF ⟨t.c,K⟩ p c "memory.<locals>.followers" [v1] 1 1 U5):=by
 have G_QB:=(ZjB (P:=P) (w:=w) T hf hd C).mono (show 2<=2 by decide);refine Lg.fn_L (vc:=[v1]) (b:=3) T.f_QM Zjl (by conv=>lhs;whnf) (by conv=>lhs;whnf) rfl (by show 13<=13;decide) (λi y h1 h2 h3 => ?_) (λcdv A outer s H E oc hoc hr => ?_)
 · have h2:i<3:=h2
   have:i=2:=by omega
   rcases this with rfl<;>(cases h3;intro z;rcases z with z|z|z<;>exact absurd z (by decide +kernel))
 exact⟨_,(Zn (Zx (i:=3) nd4 (by rfl) (by first|exact Or.inl rfl|exact Or.inr rfl) (Yr G_QB hr (by rfl) T.g_QB T.k_QB T.b_QB .nil Z9 (Zf (pv 0) (Zf (pv 1) Zg))))
 (Zn (Zx (i:=4) nd4 (by rfl) (by first|exact Or.inl rfl|exact Or.inr rfl) UI) (Zn (Zx (i:=5) nd4 (by rfl) (by first|exact Or.inl rfl|exact Or.inr rfl) UI)
 (Zn (Zdq λNF hN=>Ye PassesOwn.never (by rfl) (Ze2 (pv 3) ⟨rfl,rfl,rfl,rfl⟩ hN) (Zht (K:=K) (n:=2) (Qf (ZU (i:=6) nd4) (Qf (ZU (i:=7) nd4) Zc2))) (Zn (V8 (YD hr.units) (pv 4) (pv 6) (ZQ (Z1 (K:=K)) (by rfl) T.n_len boot_len (Zf (pv 7) Zg)) (by rfl)) (Zu (Ye PassesOwn.never (by rfl) (XM (K:=K) (pv 7)) (ZU (i:=8) nd4) (Zu (Xh (YK (K:=K) PySem.F.plainAttrs_list PySem.F.slot_list_append PySem.F.type_list_append X8 (Ze1 (YD hr.units) (pv 5) (pv 8) (YJ Zg) ⟨rfl,rfl,rfl,rfl⟩) (Zf (pv 6) Zg))))))))
 (Zn (Zdq λNF hN=>Zgp (i:=9) nd4 (by rfl) (by rfl) (by rfl) (CompSc.mk' (tn:=["one"]) (cn:=["left"]) (js:=[4]) (osc:=defScope XC) (oN:=["begins", "followers", "$rooms", "found", "left", "ahead", "one", "behind", "other", "last", "length", "gone", "earlier"]) (by rfl) (by rfl) (by rfl) (by decide +kernel)) (Zdo (pv 3) hN) (λC s₂ H₂ fp=>ZU (i:=0) nd5) (λC s₂ H₂ fp=>(Zda (Yl Qm (Qy (YD hr.units) (pv 1) (pv 0) (λ_ _=>rfl)) Zy (Yk _)))) (λC s₂ H₂ fp=>(pv 0)))
 (Zn (Zx (i:=10) nd4 (by rfl) (by first|exact Or.inl rfl|exact Or.inr rfl) Zy) (Zn (Zx (i:=11) nd4 (by rfl) (by first|exact Or.inl rfl|exact Or.inr rfl) Zy)
 (Zn (Qh PassesOwn.never (Yl JF (ZQ (Z1 (K:=K)) (by rfl) T.n_len boot_len (Zf (pv 9) Zg)) Zy (Yk _)) (Zn (Zx (i:=10) nd4 (by rfl) (by first|exact Or.inl rfl|exact Or.inr rfl) (ZC op_add (pv 10) Zy)) (Zn (Zx (i:=11) nd4 (by rfl) (by first|exact Or.inl rfl|exact Or.inr rfl) (ZC op_add (pv 11) (ZQ (Z1 (K:=K)) (by rfl) T.n_len boot_len (Zf (pv 9) Zg)))) (Zn (Zx (i:=12) nd4 (by rfl) (by first|exact Or.inl rfl|exact Or.inr rfl) (YJ Zg)) (Zn (Ye PassesOwn.never (by rfl) (XM (K:=K) (pv 9)) (ZU (i:=8) nd4) (Zu (Ye PassesOwn.never (by rfl) (XM (K:=K) (ZeD (YD hr.units) (pv 5) (pv 8) (YJ Zg) ⟨rfl,rfl,rfl,rfl⟩)) (ZU (i:=6) nd4) (Zn (V8 (YD hr.units) (pv 4) (pv 6) (ZC ZhU (Qy (YD hr.units) (pv 4) (pv 6) (λ_ _=>rfl)) Zy) (by rfl)) (Zu (YV (Yl Qm (Qy (YD hr.units) (pv 4) (pv 6) (λ_ _=>rfl)) Zy (Yk _)) (Zu (Xh (YK (K:=K) PySem.F.plainAttrs_list PySem.F.slot_list_append PySem.F.type_list_append X8 (pv 12) (Zf (pv 6) Zg)))) YU)))))) (Zu (Zx (i:=9) nd4 (by rfl) (by first|exact Or.inl rfl|exact Or.inr rfl) (pv 12))))))))
 (Zu (Yd (ZbT (Yl Qm (pv 11) (ZQ (ZcT (K:=K)) (by rfl) T.n_len boot_len (Zf (pv 3) Zg)) (Yk _)) (pv 10) X5)))))))))))⟩
theorem ZjD(T:Txt K mg t):FnOk P w K mg base CX0 4 t.a_QN t.d_QN ["rooms"] (spD ⟨t.c,K⟩ 1 Q9):=by
 have G_QG:=(Zjz (P:=P) (w:=w) (base:=base) T).mono (k:=3) (by decide);obtain⟨c0,hc0,NK⟩:=T.nk_memory_followers;refine Zir (φ:=f_QN) T.f_QN Zjm (by conv=>lhs;whnf) (by conv=>lhs;whnf) (λcdv A outer s H E hcdv hr => ?_) rfl rfl;refine⟨_,(Zn (Zx (i:=1) nd6 (by rfl) (by first|exact Or.inl rfl|exact Or.inr rfl) (Zd5 (cA:=⟨t.c,K⟩) (tab:=Q8) (m:="many") ⟨⟨t.a_QG,t.d_QG,["self"],T.cl_Rooms,T.me_Rooms_many,G_QG,T.b_QG⟩,trivial⟩ hr (pv 0)))
 (Zn (Zx (i:=2) nd6 (by rfl) (by first|exact Or.inl rfl|exact Or.inr rfl) (YJ Zg))
 (Zn ((Ye PassesOwn.never (by rfl) (Xi (by rfl) T.n_range (Zf (pv 1) Zg)) (ZU (i:=3) nd6) (Zu (Xh (YK (K:=K) PySem.F.plainAttrs_list PySem.F.slot_list_extend PySem.F.type_list_extend ZdS (pv 2) (Zf (UC (by rfl) (CompSc.mk' (tn:=["other"]) (cn:=["one"]) (js:=[3]) (osc:=defScope XD) (oN:=["rooms", "many", "pairs", "one", "followers"]) (by rfl) (by rfl) (by rfl) (by decide +kernel)) (ZaU (by rfl) T.n_range (Zf (ZC (YO (K:=K)) (pv 3) Zy) (Zf (pv 1) Zg))) (λC s₂ H₂ fp=>ZU (i:=0) nd7) (λC s₂ H₂ fp=>Qr) (λC s₂ H₂ fp=>(JI (Zf (pv 1) (Zf (pv 0) Zg))))) Zg))))))
 (ZeV (i:=4) (λp fo c oc hfo=>(Zu (Yd (ZeT (sp:=λvc=>spF ⟨t.c,K⟩ p c "memory.<locals>.followers" vc 1 1 U5) (k:=3) (fr:=["rooms"]) (js:=[0]) (cl:=[("rooms",s.heap.objs.size+1)]) (λbase vc hf C=>by obtain⟨v1,rfl⟩:=Lg.cap1 C;obtain⟨doc,pm,ct,hfo⟩:=hfo;exact FnOk.mono (k:=3) (ZjC T hf (congrArg Obj.data hfo) C) (by decide)) hr (List.mem_append_left _ List.mem_cons_self) (List.mem_append_left _ List.mem_cons_self) (λ_=>rfl) Lg.inj1 (List.forall_mem_cons.mpr ⟨rfl,(λ_ z=>nomatch z)⟩) (λi y h=>match i,h with|0,h=>by cases h;exact⟨_,_,rfl,rfl,.inl rfl,.inr (.inl rfl),rfl⟩|_+1,h=>by cases h) rfl (by rfl) T.g_QM T.k_QM T.b_QM (Zf (pv 2) (Zf (pv 4) Zg)))))) NK T.tb_memory_followers (hcdv.trans hc0) rfl nd6 (by rfl) (by rfl) (by rfl))))),[],?_⟩
 unfold f_QN;exact(ZA (show VS _ _ [] _ _ _ _ from(Z8 1 (Zgo (Zd 0) Zl)))
 (ZA (show VS _ _ [2] _ _ _ _ from(VB 2 (XN Zl)))
 (ZA (Xq (Vd (Zh (Zd 1) Zl) Xc) (Yw 3) (Zif 2 (by rfl) (US (by rfl) (Zgl (Zh (Zk YQ (Zd 3) (Zr (d:=(.int 1)) (by rfl) (by rfl))) (Zh (Zd 1) Zl)) Zkg) (Yw 0) QG (J5 (Zh (Zd 1) (Zh (Zd 0) Zl))))))
 (VS.frz (ow1:=[]) 2 (ZgU (ow:=[]) (i:=4) (by rfl) (λp fo c oc hfo=>(show VS _ [] [] [] [] _ _ from(Yv (ZeZ (Zed (j:=0) (by rfl) ZeX) (ZgT (Zd 2) (ZgS (i:=4) (by rfl) Zl)))))))))))
theorem Jh(T:Txt K mg t):FnOk P w K mg base CX0 1 t.a_QC t.d_QC ["script", "k"] (spD ⟨t.c,K⟩ 2 Yu):=by
 refine XQ (φ:=f_QC) T.f_QC Zjn (by conv=>lhs;whnf) (by conv=>lhs;whnf) (λcdv A outer s H E hr => ?_) rfl rfl;refine⟨_,(Zn (YV (Yl Zhq (pv 1) (ZQ (Z1 (K:=K)) (by rfl) T.n_len boot_len (Zf (pv 0) Zg)) (Yk _)) (Zu (Yd (ZX (ZY (K:=K)) (pv 0) (pv 1) (λ_ _=>rfl)))) YU)
 (Zu (Yd Zy))),[],?_⟩
 unfold f_QC;exact(ZA (Xp (YL (Zk QE (Zd 1) (Z2 Z5 (Zh (Zd 0) Zl)))) (Yv (Zk Z3 (Zd 0) (Zd 1))) Xo)
 (Yv (Zr (d:=(.int 0)) (by rfl) (by rfl))))
theorem ZjE(T:Txt K mg t):FnOk P w K mg base CX0 1 t.a_QI t.d_QI ["cell"] (spD ⟨t.c,K⟩ 1 Ja):=by
 refine XQ (φ:=f_QI) T.f_QI Zjo (by conv=>lhs;whnf) (by conv=>lhs;whnf) (λcdv A outer s H E hr => ?_) rfl rfl;refine⟨_,(Zn (Zx (i:=1) nd8 (by rfl) (by first|exact Or.inl rfl|exact Or.inr rfl) (YJ (Zf (V5 [48,49] (by decide +kernel)) (Zf (V5 [97,98] (by decide +kernel)) (Zf (V5 [120,121,122] (by decide +kernel)) (Zf (V5 [48,97,49,98] (by decide +kernel)) (Zf (V5 [98,97] (by decide +kernel)) (Zf (V5 [57,122,56] (by decide +kernel)) Zg))))))))
 (Zu (Yd (ZX (ZY (K:=K)) (pv 1) (ZC Yz (pv 0) (ZQ (Z1 (K:=K)) (by rfl) T.n_len boot_len (Zf (pv 1) Zg))) (λ_ _=>rfl))))),[],?_⟩
 unfold f_QI;exact(ZA (show VS _ _ [] _ _ _ _ from(Z8 1 (VF.cl (XN (Zh (Zr (d:=(.str [48,49])) (by rfl) (by rfl)) (Zh (Zr (d:=(.str [97,98])) (by rfl) (by rfl)) (Zh (Zr (d:=(.str [120,121,122])) (by rfl) (by rfl)) (Zh (Zr (d:=(.str [48,97,49,98])) (by rfl) (by rfl)) (Zh (Zr (d:=(.str [98,97])) (by rfl) (by rfl)) (Zh (Zr (d:=(.str [57,122,56])) (by rfl) (by rfl)) Zl))))))))))
 (Yv (Zk Z3 (Zd 1) (Zk YA (Zd 0) (Z2 Z5 (Zh (Zd 1) Zl))))))
theorem ZjF(T:Txt K mg t):FnOk P w K mg base CX0 2 t.a_QF t.d_QF ["script", "at", "many", "marks"] (spM ⟨t.c,K⟩ 4 U6):=by
 have G_QC:=(Jh (P:=P) (w:=w) (base:=base) T).mono (k:=1) (by decide);refine Zjc (φ:=f_QF) T.f_QF Zjp (by conv=>lhs;whnf) (by conv=>lhs;whnf) (λcdv A outer s H E hr => ?_) rfl rfl;refine⟨_,(Zn (Zx (i:=4) nd9 (by rfl) (by first|exact Or.inl rfl|exact Or.inr rfl) (YJ Zg))
 (Zn (Ye PassesOwn.never (by rfl) (Xi (by rfl) T.n_range (Zf (pv 2) Zg)) (ZU (i:=5) nd9) (Zn (Zx (i:=6) nd9 (by rfl) (by first|exact Or.inl rfl|exact Or.inr rfl) (YJ Zg))
 (Zn ((Ye PassesOwn.never (by rfl) (Xi (by rfl) T.n_range (Zf (ZQ (Z1 (K:=K)) (by rfl) T.n_len boot_len (Zf (pv 3) Zg)) Zg)) (ZU (i:=7) nd9) (Zn (Zx (i:=8) nd9 (by rfl) (by first|exact Or.inl rfl|exact Or.inr rfl) (Yr (G_QC) hr (by rfl) T.g_QC T.k_QC T.b_QC .nil Z9 (Zf (pv 0) (Zf (ZC (YO (K:=K)) (ZC (YO (K:=K)) (pv 1) (ZC (Ug (K:=K)) (pv 5) (ZQ (Z1 (K:=K)) (by rfl) T.n_len boot_len (Zf (pv 3) Zg)))) (pv 7)) Zg))))
 (Zu (Xh (YK (K:=K) PySem.F.plainAttrs_list PySem.F.slot_list_append PySem.F.type_list_append X8 (pv 6) (Zf (ZX (ZY (K:=K)) (YJ (Zf (ZC Yz (pv 8) (pv 2)) (Zf X5 Zg))) (X7 ZdX (by rfl) T.n_int boot_int (Zf (Zc6 JF (ZC Yz (ZC Qk (pv 8) (pv 2)) Zy) Zy (Yk _)) Zg)) (λ_ _=>rfl)) Zg)))))))
 (Zu (Xh (YK (K:=K) PySem.F.plainAttrs_list PySem.F.slot_list_append PySem.F.type_list_append X8 (pv 4) (Zf (pv 6) Zg)))))))
 (Zu (Yd (pv 4))))),?_⟩
 unfold f_QF;exact(ZgD 4 (by rfl) (by rfl) ZgE
 (ZgC (ZcR 5 (by decide) (by rfl) (by rfl) (Zb5 (Zh (Zd 2) Zl) Xc) (XR (show VM _ _ [6] _ _ _ _ _ from VH (λ_=>(show VS _ _ [6] _ _ _ _ from(VB 6 (XN Zl)))) (by rfl))
 (XR (show VM _ _ [6] _ _ _ _ _ from VH (λ_=>(Xq (Vd (Zh (Z2 Z5 (Zh (Zd 3) Zl)) Zl) Xc) (Yw 7) (ZA (show VS _ _ [6] _ _ _ _ from(Z8 8 (YB [] (by rfl) (Zh (Zd 0) (Zh (Zk YQ (Zk YQ (Zd 1) (Zk Uh (Zd 5) (Z2 Z5 (Zh (Zd 3) Zl)))) (Zd 7)) Zl)))))
 (UR 6 (by rfl) (Zk Z3 (VF.cl (XN (Zh (Zk YA (Zd 8) (Zd 2)) (Zh (Zr (d:=.non) (by rfl) (by rfl)) Zl)))) (Z2 Zh9 (Zh (Zk QE (Zk YA (Zk QD (Zd 8) (Zd 2)) (Zr (d:=(.int 5)) (by rfl) (by rfl))) (Zr (d:=(.int 2)) (by rfl) (by rfl))) Zl))))))) (by rfl))
 (show VM _ _ [] _ _ _ _ _ from ZgA 6 (by decide) (by rfl) (by rfl) (by rfl) (by rfl) (by rfl)))))
 ZgB))
theorem ZjG(T:Txt K mg t):FnOk P w K mg base CX0 3 t.a_QE t.d_QE ["script", "at", "many", "marks"] (spD ⟨t.c,K⟩ 4 Jb):=by
 have G_QC:=(Jh (P:=P) (w:=w) (base:=base) T).mono (k:=2) (by decide);have G_QF:=(ZjF (P:=P) (w:=w) (base:=base) T).mono (k:=2) (by decide);refine XQ (φ:=f_QE) T.f_QE Zjq (by conv=>lhs;whnf) (by conv=>lhs;whnf) (λcdv A outer s H E hr => ?_) rfl rfl;refine⟨_,(Zn (Zx (i:=4) VU (by rfl) (by first|exact Or.inl rfl|exact Or.inr rfl) (Yr (G_QF) hr (by rfl) T.g_QF T.k_QF T.b_QF .nil Z9 (Zf (pv 0) (Zf (pv 1) (Zf (pv 2) (Zf (pv 3) Zg))))))
 (Zn (Zx (i:=5) VU (by rfl) (by first|exact Or.inl rfl|exact Or.inr rfl) ZeC)
 (Zn (Ye PassesOwn.never (by rfl) (ZaU (by rfl) T.n_range (Zf Zy (Zf (pv 2) Zg))) (ZU (i:=6) VU) (Zn (Zx (i:=7) VU (by rfl) (by first|exact Or.inl rfl|exact Or.inr rfl) (ZC Yz (ZC Qk (Yr (G_QC) hr (by rfl) T.g_QC T.k_QC T.b_QC .nil Z9 (Zf (pv 0) (Zf (ZC (YO (K:=K)) (pv 1) (ZC (Ug (K:=K)) (pv 6) (ZQ (Z1 (K:=K)) (by rfl) T.n_len boot_len (Zf (pv 3) Zg)))) Zg))) Zy) (ZC (Ug (K:=K)) (pv 6) (ZQ (Z1 (K:=K)) (by rfl) T.n_len boot_len (Zf (pv 3) Zg)))))
 (Zn ((Qh PassesOwn.never (Vo (Zh4 (YD hr.units) (pv 7) (pv 5))) (Zu (Zx (i:=7) VU (by rfl) (by first|exact Or.inl rfl|exact Or.inr rfl) (ZC Yz (ZC (YO (K:=K)) (pv 7) Zy) (ZC (Ug (K:=K)) (pv 6) (ZQ (Z1 (K:=K)) (by rfl) T.n_len boot_len (Zf (pv 3) Zg))))))))
 (Zn (V8 (YD hr.units) (pv 5) (pv 7) Qb (by rfl))
 (Zu (JA (pv 6) (Jz (ZX (ZY (K:=K)) (pv 4) (ZC Qk (pv 7) (ZQ (Z1 (K:=K)) (by rfl) T.n_len boot_len (Zf (pv 3) Zg))) (λ_ _=>rfl)) (ZC Yz (pv 7) (ZQ (Z1 (K:=K)) (by rfl) T.n_len boot_len (Zf (pv 3) Zg))) JN)))))))
 (Zn (Ye PassesOwn.never (by rfl) (Xi (by rfl) T.n_range (Zf (pv 2) Zg)) (ZU (i:=6) VU) (Zu (YV (Yl (UK (cA:=⟨t.c,K⟩) (hr.units)) (YK (K:=K) PySem.F.plainAttrs_list PySem.F.slot_list_count PySem.F.type_list_count (Za7 (K:=K)) (ZX (ZY (K:=K)) (pv 4) (pv 6) (λ_ _=>rfl)) (Zf X5 Zg)) (ZQ (Z1 (K:=K)) (by rfl) T.n_len boot_len (Zf (pv 3) Zg)) (Yk _)) (Zn (Zx (i:=8) VU (by rfl) (by first|exact Or.inl rfl|exact Or.inr rfl) (Yr (G_QC) hr (by rfl) T.g_QC T.k_QC T.b_QC .nil Z9 (Zf (pv 0) (Zf (ZC (YO (K:=K)) (ZC (YO (K:=K)) (pv 1) (ZC (Ug (K:=K)) (pv 6) (ZQ (Z1 (K:=K)) (by rfl) T.n_len boot_len (Zf (pv 3) Zg)))) Zy) Zg))))
 (Zu (JA (ZC Yz (pv 8) (pv 2)) (Jz (ZX (ZY (K:=K)) (pv 4) (pv 6) (λ_ _=>rfl)) (ZC Yz (ZC Qk (pv 8) Zy) (ZQ (Z1 (K:=K)) (by rfl) T.n_len boot_len (Zf (pv 3) Zg))) JN)))) YU)))
 (Zu (Yd (X7 (V6 (K:=K)) (by rfl) T.n_tuple boot_tuple (Zf (UC (by rfl) (CompSc.mk' (tn:=["row"]) (cn:=[]) (js:=[]) (osc:=defScope XE) (oN:=["script", "at", "many", "marks", "table", "taken", "room", "slot", "cell"]) (by rfl) (by rfl) (by rfl) (by decide +kernel)) (XM (K:=K) (pv 4)) (λC s₂ H₂ fp=>ZU (i:=0) ZkA) (λC s₂ H₂ fp=>Qr) (λC s₂ H₂ fp=>(X7 (V6 (K:=K)) (by rfl) T.n_tuple boot_tuple (Zf (pv 0) Zg)))) Zg)))))))),[5],?_⟩
 unfold f_QE;exact(Zid 4 (by rfl) (by rfl) (ZeG [] (by rfl) (Zh (Zd 0) (Zh (Zd 1) (Zh (Zd 2) (Zh (Zd 3) Zl)))))
 (XR (show VM _ _ [5] _ _ _ _ _ from VH (λ_=>(show VS _ _ [5] _ _ _ _ from ZgI 5 ZgH (by rfl) (by rfl) (by rfl) (by rfl))) (by rfl))
 (XR (ZcR 6 (by decide) (by rfl) (by rfl) (ZeF (Zh (Zr (d:=(.int 1)) (by rfl) (by rfl)) (Zh (Zd 2) Zl)) Zkg) (XR (show VM _ _ [5] _ _ _ _ _ from VH (λ_=>(show VS _ _ [5] _ _ _ _ from(Z8 7 (Zk YA (Zk QD (YB [] (by rfl) (Zh (Zd 0) (Zh (Zk YQ (Zd 1) (Zk Uh (Zd 6) (Z2 Z5 (Zh (Zd 3) Zl)))) Zl))) (Zr (d:=(.int 60)) (by rfl) (by rfl))) (Zk Uh (Zd 6) (Z2 Z5 (Zh (Zd 3) Zl))))))) (by rfl))
 (XR (show VM _ _ [5] _ _ _ _ _ from VH (λ_=>(J7 (ow:=[5]) (Vy (Zie (Zd 7) (Vb 5 (by rfl)))) (show VS _ _ [5] _ _ _ _ from(Z8 7 (Zk YA (Zk YQ (Zd 7) (Zr (d:=(.int 1)) (by rfl) (by rfl))) (Zk Uh (Zd 6) (Z2 Z5 (Zh (Zd 3) Zl)))))))) (by rfl))
 (XR (show VM _ _ [5] _ _ _ _ _ from VH (λ_=>(ZgJ 5 (by rfl) (Zr (d:=(.bl true)) (by rfl) (by rfl)) (Zd 7))) (by rfl))
 (Zdj (Zd 6) (Zk QD (Zd 7) (Z2 Z5 (Zh (Zd 3) Zl))) (Zk YA (Zd 7) (Z2 Z5 (Zh (Zd 3) Zl))))))))
 (XR (ZcR 6 (by decide) (by rfl) (by rfl) (Zb5 (Zh (Zd 2) Zl) Xc) (Zjb (YL (Zk UL (Zf0 Zb9 (Zk Z3 (Zd 4) (Zd 6)) (Zr (d:=.non) (by rfl) (by rfl))) (Z2 Z5 (Zh (Zd 3) Zl)))) (XR (show VM _ _ [5] _ _ _ _ _ from VH (λ_=>(show VS _ _ [5] _ _ _ _ from(Z8 8 (YB [] (by rfl) (Zh (Zd 0) (Zh (Zk YQ (Zk YQ (Zd 1) (Zk Uh (Zd 6) (Z2 Z5 (Zh (Zd 3) Zl)))) (Zr (d:=(.int 1)) (by rfl) (by rfl))) Zl)))))) (by rfl))
 (Zdj (Zk YA (Zd 8) (Zd 2)) (Zd 6) (Zk YA (Zk QD (Zd 8) (Zr (d:=(.int 7)) (by rfl) (by rfl))) (Z2 Z5 (Zh (Zd 3) Zl))))) Zgv))
 (Zic (Ub (Zh (VF.cl (US (by rfl) (Ue (Zd 4)) (Yw 0) QG (Ub (Zh (Zd 0) Zl)))) Zl)))))))
theorem ZjH(T:Txt K mg t):FnOk P w K mg base CX0 2 t.a_QD t.d_QD ["script", "many", "marks"] (spD ⟨t.c,K⟩ 3 Jc):=by
 have G_QC:=(Jh (P:=P) (w:=w) (base:=base) T).mono (k:=1) (by decide);refine XQ (φ:=f_QD) T.f_QD Zjr (by conv=>lhs;whnf) (by conv=>lhs;whnf) (λcdv A outer s H E hr => ?_) rfl rfl;refine⟨_,(Zn (Zx (i:=3) U7 (by rfl) (by first|exact Or.inl rfl|exact Or.inr rfl) (YJ Zg))
 (Zn ((Ye PassesOwn.never (by rfl) (Xi (by rfl) T.n_range (Zf (pv 1) Zg)) (ZU (i:=4) U7) (Zn (Zx (i:=5) U7 (by rfl) (by first|exact Or.inl rfl|exact Or.inr rfl) (YJ Zg))
 (Zn ((Ye PassesOwn.never (by rfl) (Xi (by rfl) T.n_range (Zf (ZQ (Z1 (K:=K)) (by rfl) T.n_len boot_len (Zf (pv 2) Zg)) Zg)) (ZU (i:=6) U7) (Zn (Zx (i:=7) U7 (by rfl) (by first|exact Or.inl rfl|exact Or.inr rfl) (Yr (G_QC) hr (by rfl) T.g_QC T.k_QC T.b_QC .nil Z9 (Zf (pv 0) (Zf (ZC (YO (K:=K)) (ZC (YO (K:=K)) Zy (ZC (Ug (K:=K)) (pv 4) (ZQ (Z1 (K:=K)) (by rfl) T.n_len boot_len (Zf (pv 2) Zg)))) (pv 6)) Zg))))
 (Zu (Xh (YK (K:=K) PySem.F.plainAttrs_list PySem.F.slot_list_append PySem.F.type_list_append X8 (pv 5) (Zf (ZX (ZY (K:=K)) (YJ (Zf (ZC Yz (ZC (YO (K:=K)) (pv 6) (pv 4)) (pv 1)) (Zf (ZC Yz (pv 6) (pv 1)) (Zf (ZC Yz (pv 6) (pv 1)) (Zf X5 Zg))))) (ZC Yz (pv 7) Zy) (λ_ _=>rfl)) Zg)))))))
 (Zn (YV (Yl (UK (cA:=⟨t.c,K⟩) (hr.units)) (YK (K:=K) PySem.F.plainAttrs_list PySem.F.slot_list_count PySem.F.type_list_count (Za7 (K:=K)) (pv 5) (Zf X5 Zg)) (ZQ (Z1 (K:=K)) (by rfl) T.n_len boot_len (Zf (pv 2) Zg)) (Yk _)) (Zu (JA Zy (Jz (pv 5) Zy JN))) YU)
 (Zu (Xh (YK (K:=K) PySem.F.plainAttrs_list PySem.F.slot_list_append PySem.F.type_list_append X8 (pv 3) (Zf (pv 5) Zg)))))))))
 (Zu (Yd (pv 3))))),[],?_⟩
 unfold f_QD;exact(ZA (show VS _ _ [3] _ _ _ _ from(VB 3 (XN Zl)))
 (ZA (Xq (Vd (Zh (Zd 1) Zl) Xc) (Yw 4) (ZA (show VS _ _ [3,5] _ _ _ _ from(VB 5 (XN Zl)))
 (ZA (Xq (Vd (Zh (Z2 Z5 (Zh (Zd 2) Zl)) Zl) Xc) (Yw 6) (ZA (show VS _ _ [3,5] _ _ _ _ from(Z8 7 (YB [] (by rfl) (Zh (Zd 0) (Zh (Zk YQ (Zk YQ (Zr (d:=(.int 3)) (by rfl) (by rfl)) (Zk Uh (Zd 4) (Z2 Z5 (Zh (Zd 2) Zl)))) (Zd 6)) Zl)))))
 (UR 5 (by rfl) (Zk Z3 (VF.cl (XN (Zh (Zk YA (Zk YQ (Zd 6) (Zd 4)) (Zd 1)) (Zh (Zk YA (Zd 6) (Zd 1)) (Zh (Zk YA (Zd 6) (Zd 1)) (Zh (Zr (d:=.non) (by rfl) (by rfl)) Zl)))))) (Zk YA (Zd 7) (Zr (d:=(.int 4)) (by rfl) (by rfl)))))))
 (ZA (Xp (YL (Zk UL (Zf0 Zb9 (Vb 5 (by rfl)) (Zr (d:=.non) (by rfl) (by rfl))) (Z2 Z5 (Zh (Zd 2) Zl)))) (Zgu 5 (by rfl) (Zr (d:=(.int 0)) (by rfl) (by rfl)) (Zr (d:=(.int 0)) (by rfl) (by rfl))) Xo)
 (VS.frz (ow1:=[3]) 5 (UR 3 (by rfl) (Zd 5)))))))
 (VS.frz (ow1:=[]) 3 (Yv (Zd 3)))))
theorem ZjI(T:Txt K mg t):FnOk P w K mg base CX0 1 t.a_QK t.d_QK ["table"] (spD ⟨t.c,K⟩ 1 Jd):=by
 refine XQ (φ:=f_QK) T.f_QK Zjs (by conv=>lhs;whnf) (by conv=>lhs;whnf) (λcdv A outer s H E hr => ?_) rfl rfl;refine⟨_,(Zn (Zx (i:=1) Uu (by rfl) (by first|exact Or.inl rfl|exact Or.inr rfl) (YJ (Zf Zy Zg)))
 (Zn (Zx (i:=2) Uu (by rfl) (by first|exact Or.inl rfl|exact Or.inr rfl) Zy)
 (Zn ((Qh PassesOwn.never (Yl Zhq (pv 2) (ZQ (Z1 (K:=K)) (by rfl) T.n_len boot_len (Zf (pv 1) Zg)) (Yk _)) (Zn ((Ye PassesOwn.never (by rfl) (XM (K:=K) (ZX (ZY (K:=K)) (pv 0) (ZX (ZY (K:=K)) (pv 1) (pv 2) (λ_ _=>rfl)) (λ_ _=>rfl))) (ZU (i:=3) Uu) (Zu (YV (PW.pt (Qc (Vo (Jw (pv 3))) (Jx (Yl (ZbY (K:=K)) (pv 3) (pv 1) (by rfl))))) (Zu (Xh (YK (K:=K) PySem.F.plainAttrs_list PySem.F.slot_list_append PySem.F.type_list_append X8 (pv 1) (Zf (pv 3) Zg)))) YU))))
 (Zu (Zx (i:=2) Uu (by rfl) (by first|exact Or.inl rfl|exact Or.inr rfl) (ZC (YO (K:=K)) (pv 2) Zy))))))
 (Zn (Zx (i:=4) Uu (by rfl) (by first|exact Or.inl rfl|exact Or.inr rfl) (YJ Zg))
 (Zn ((Ye PassesOwn.never (by rfl) (XM (K:=K) (pv 1)) (ZU (i:=5) Uu) (Zu (Xh (YK (K:=K) PySem.F.plainAttrs_list PySem.F.slot_list_append PySem.F.type_list_append X8 (pv 4) (Zf (X7 (V6 (K:=K)) (by rfl) T.n_tuple boot_tuple (Zf (UC (by rfl) (CompSc.mk' (tn:=["other"]) (cn:=["found"]) (js:=[1]) (osc:=defScope XF) (oN:=["table", "found", "at", "other", "ways", "room"]) (by rfl) (by rfl) (by rfl) (by decide +kernel)) (XM (K:=K) (ZX (ZY (K:=K)) (pv 0) (pv 5) (λ_ _=>rfl))) (λC s₂ H₂ fp=>ZU (i:=0) ZkB) (λC s₂ H₂ fp=>Qr) (λC s₂ H₂ fp=>(ZbT (Vo (Jv (pv 0))) X5 (YK (K:=K) PySem.F.plainAttrs_list PySem.F.slot_list_index PySem.F.type_list_index (Zd6 (K:=K)) (pv 1) (Zf (pv 0) Zg))))) Zg)) Zg))))))
 (Zu (Yd (X7 (V6 (K:=K)) (by rfl) T.n_tuple boot_tuple (Zf (pv 4) Zg))))))))),[],?_⟩
 unfold f_QK;exact(ZA (show VS _ _ [1] _ _ _ _ from(VB 1 (XN (Zh (Zr (d:=(.int 0)) (by rfl) (by rfl)) Zl))))
 (ZA (show VS _ _ [1] _ _ _ _ from(Z8 2 (Zr (d:=(.int 0)) (by rfl) (by rfl))))
 (ZA (J7 (ow:=[1]) (YL (Zk QE (Zd 2) (Z2 Z5 (Zh (Vb 1 (by rfl)) Zl)))) (ZA (Xq (Ue (Zk Z3 (Zd 0) (Zk Z3 (Vb 1 (by rfl)) (Zd 2)))) (Yw 3) (Xp (QF (Vy (J0 (Zd 3))) (YL (Zk Zhw (Zd 3) (Vb 1 (by rfl))))) (UR 1 (by rfl) (Zd 3)) Xo))
 (show VS _ _ [1] _ _ _ _ from(Z8 2 (Zk YQ (Zd 2) (Zr (d:=(.int 1)) (by rfl) (by rfl)))))))
 (VS.frz (ow1:=[]) 1 (ZA (show VS _ _ [4] _ _ _ _ from(VB 4 (XN Zl)))
 (ZA (Xq (Ue (Zd 1)) (Yw 5) (UR 4 (by rfl) (Ub (Zh (VF.cl (US (by rfl) (Ue (Zk Z3 (Zd 0) (Zd 5))) (Yw 0) QG (Zi7 (Vy (JZ (Zd 0))) (Zr (d:=.non) (by rfl) (by rfl)) (Zf0 ZeK (Zd 1) (Zd 0))))) Zl))))
 (VS.frz (ow1:=[]) 4 (Yv (Ub (Zh (Zd 4) Zl))))))))))
theorem ZjJ(T:Txt K mg t):FnOk P w K mg base CX0 1 t.a_QJ t.d_QJ ["ways", "pairs"] (spD ⟨t.c,K⟩ 2 Je):=by
 refine XQ (φ:=f_QJ) T.f_QJ Zjt (by conv=>lhs;whnf) (by conv=>lhs;whnf) (λcdv A outer s H E hr => ?_) rfl rfl;refine⟨_,(Zn (Zx (i:=2) U8 (by rfl) (by first|exact Or.inl rfl|exact Or.inr rfl) UI)
 (Zn (ZgM PassesOwn.never (by rfl) (pv 1) (Zht (K:=K) (n:=2) (Qf (ZU (i:=3) U8) (Qf (ZU (i:=4) U8) Zc2))) (Zu ((Ye PassesOwn.never (by rfl) (Xi (by rfl) T.n_range (Zf (ZQ (Z1 (K:=K)) (by rfl) T.n_len boot_len (Zf (ZX (ZY (K:=K)) (pv 0) (pv 3) (λ_ _=>rfl)) Zg)) Zg)) (ZU (i:=5) U8) (Zn (Zx (i:=6) U8 (by rfl) (by first|exact Or.inl rfl|exact Or.inr rfl) (JI (Zf (ZX (ZY (K:=K)) (ZX (ZY (K:=K)) (pv 0) (pv 3) (λ_ _=>rfl)) (pv 5) (λ_ _=>rfl)) (Zf (ZX (ZY (K:=K)) (ZX (ZY (K:=K)) (pv 0) (pv 4) (λ_ _=>rfl)) (pv 5) (λ_ _=>rfl)) Zg))))
 (Zu (YV (PW.pt (Qc (Vo (Jw (ZX (ZY (K:=K)) (pv 6) Zy (λ_ _=>rfl)))) (Qc (Vo (Jw (ZX (ZY (K:=K)) (pv 6) Zy (λ_ _=>rfl)))) (Jx (Yl (QB (cA:=⟨t.c,K⟩) (hr.units)) (ZX (ZY (K:=K)) (pv 6) Zy (λ_ _=>rfl)) (ZX (ZY (K:=K)) (pv 6) Zy (λ_ _=>rfl)) (Yk _)))))) (Zu (V8 (YD hr.units) (pv 2) (pv 6) Qb (by rfl))) YU)))))))
 (Zu (Yd (pv 2))))),[],?_⟩
 unfold f_QJ;exact(ZA (show VS _ _ [2] _ _ _ _ from ZaI 2 ZaK (by rfl) (by rfl) (by rfl) (by rfl))
 (ZA (Ze8 1 (by rfl) ((Zb1 3 (by rfl) (by rfl) (Zb1 4 (by rfl) (by rfl) Zgk))) (Xq (Vd (Zh (Z2 Z5 (Zh (Zk Z3 (Zd 0) (Zd 3)) Zl)) Zl) Xc) (Yw 5) (ZA (show VS _ _ [2] _ _ _ _ from(Z8 6 (J5 (Zh (Zk Z3 (Zk Z3 (Zd 0) (Zd 3)) (Zd 5)) (Zh (Zk Z3 (Zk Z3 (Zd 0) (Zd 4)) (Zd 5)) Zl)))))
 (Xp (QF (Vy (J0 (Zk Z3 (Zd 6) (Zr (d:=(.int 0)) (by rfl) (by rfl))))) (QF (Vy (J0 (Zk Z3 (Zd 6) (Zr (d:=(.int 1)) (by rfl) (by rfl))))) (YL (Zk QC (Zk Z3 (Zd 6) (Zr (d:=(.int 0)) (by rfl) (by rfl))) (Zk Z3 (Zd 6) (Zr (d:=(.int 1)) (by rfl) (by rfl))))))) (ZaJ 2 (by rfl) (Zr (d:=(.bl true)) (by rfl) (by rfl)) (Zd 6)) Xo))))
 (VS.frz (ow1:=[]) 2 (Yv (Zd 2)))))
theorem ZjK(T:Txt K mg t):FnOk P w K mg base CX0 2 t.a_QL t.d_QL ["ways"] (spD ⟨t.c,K⟩ 1 Jf):=by
 have G_QJ:=(ZjJ (P:=P) (w:=w) (base:=base) T).mono (k:=1) (by decide);refine XQ (φ:=f_QL) T.f_QL Zju (by conv=>lhs;whnf) (by conv=>lhs;whnf) (λcdv A outer s H E hr => ?_) rfl rfl;refine⟨_,(Zn (Zx (i:=1) Uv (by rfl) (by first|exact Or.inl rfl|exact Or.inr rfl) UI)
 (Zn ((Ye PassesOwn.never (by rfl) (Xi (by rfl) T.n_range (Zf (ZQ (Z1 (K:=K)) (by rfl) T.n_len boot_len (Zf (pv 0) Zg)) Zg)) (ZU (i:=2) Uv) (Zu ((Ye PassesOwn.never (by rfl) (Xi (by rfl) T.n_range (Zf (ZQ (Z1 (K:=K)) (by rfl) T.n_len boot_len (Zf (pv 0) Zg)) Zg)) (ZU (i:=3) Uv) (Zu (YV (Yl (QB (cA:=⟨t.c,K⟩) (hr.units)) (pv 2) (pv 3) (Yk _)) (Zu (V8 (YD hr.units) (pv 1) (JI (Zf (pv 2) (Zf (pv 3) Zg))) Qb (by rfl))) YU)))))))
 (Zn (Zx (i:=4) Uv (by rfl) (by first|exact Or.inl rfl|exact Or.inr rfl) (ZQ (ZcT (K:=K)) (by rfl) T.n_len boot_len (Zf (pv 1) Zg)))
 (Zn ((Ye PassesOwn.never (by rfl) (Xi (by rfl) T.n_range (Zf (ZC (YO (K:=K)) (pv 4) Zy) Zg)) (ZU (i:=5) Uv) (Zn (YV (Yl (UK (cA:=⟨t.c,K⟩) (hr.units)) (ZQ (ZcT (K:=K)) (by rfl) T.n_len boot_len (Zf (pv 1) Zg)) Zy (Yk _)) (Zu (Yd (pv 5))) YU)
 (Zu (Zx (i:=1) Uv (by rfl) (by first|exact Or.inl rfl|exact Or.inr rfl) (Yr (G_QJ) hr (by rfl) T.g_QJ T.k_QJ T.b_QJ .nil Z9 (Zf (pv 0) (Zf (pv 1) Zg))))))))
 (Zu (Yd X5)))))),[],?_⟩
 unfold f_QL;exact(ZA (show VS _ _ [1] _ _ _ _ from ZaI 1 ZaK (by rfl) (by rfl) (by rfl) (by rfl))
 (ZA (Xq (Vd (Zh (Z2 Z5 (Zh (Zd 0) Zl)) Zl) Xc) (Yw 2) (Xq (Vd (Zh (Z2 Z5 (Zh (Zd 0) Zl)) Zl) Xc) (Yw 3) (Xp (YL (Zk QC (Zd 2) (Zd 3))) (ZaJ 1 (by rfl) (Zr (d:=(.bl true)) (by rfl) (by rfl)) (J5 (Zh (Zd 2) (Zh (Zd 3) Zl)))) Xo)))
 (VS.frz (ow1:=[]) 1 (ZA (show VS _ _ [] _ _ _ _ from(Z8 4 (Z2 Zdw (Zh (Zd 1) Zl))))
 (ZA (Xq (Vd (Zh (Zk YQ (Zd 4) (Zr (d:=(.int 1)) (by rfl) (by rfl))) Zl) Xc) (Yw 5) (ZA (Xp (YL (Zk UL (Z2 Zdw (Zh (Zd 1) Zl)) (Zr (d:=(.int 0)) (by rfl) (by rfl)))) (Yv (Zd 5)) Xo)
 (show VS _ _ [] _ _ _ _ from(Z8 1 (YB [] (by rfl) (Zh (Zd 0) (Zh (Zd 1) Zl)))))))
 (Yv (Zr (d:=.non) (by rfl) (by rfl))))))))
theorem ZjL(T:Txt K mg t):FnOk P w K mg base CX0 5 t.a_QO t.d_QO ["script"] (spD ⟨t.c,K⟩ 1 Jg):=by
 have GM_QH:=(Zjy (P:=P) (w:=w) (base:=base) T).mono (k:=3) (by decide);have G_QD:=(ZjH (P:=P) (w:=w) (base:=base) T).mono (k:=4) (by decide);have G_QC:=(Jh (P:=P) (w:=w) (base:=base) T).mono (k:=4) (by decide);have G_QL:=(ZjK (P:=P) (w:=w) (base:=base) T).mono (k:=4) (by decide);have G_QE:=(ZjG (P:=P) (w:=w) (base:=base) T).mono (k:=4) (by decide)
 have G_QI:=(ZjE (P:=P) (w:=w) (base:=base) T).mono (k:=4) (by decide);have G_QK:=(ZjI (P:=P) (w:=w) (base:=base) T).mono (k:=4) (by decide);have G_QN:=(ZjD (P:=P) (w:=w) (base:=base) T).mono (k:=4) (by decide);refine XQ (φ:=f_QO) T.f_QO Zjv (by conv=>lhs;whnf) (by conv=>lhs;whnf) (λcdv A outer s H E hr => ?_) rfl rfl;refine⟨_,(Zn (Zx (i:=1) VV (by rfl) (by first|exact Or.inl rfl|exact Or.inr rfl) (Yr (G_QI) hr (by rfl) T.g_QI T.k_QI T.b_QI .nil Z9 (Zf (Yr (G_QC) hr (by rfl) T.g_QC T.k_QC T.b_QC .nil Z9 (Zf (pv 0) (Zf Zy Zg))) Zg)))
 (Zn (Zx (i:=2) VV (by rfl) (by first|exact Or.inl rfl|exact Or.inr rfl) (ZC (YO (K:=K)) Zy (ZC Yz (Yr (G_QC) hr (by rfl) T.g_QC T.k_QC T.b_QC .nil Z9 (Zf (pv 0) (Zf Zy Zg))) Zy)))
 (Zn (Zx (i:=3) VV (by rfl) (by first|exact Or.inl rfl|exact Or.inr rfl) (Yr (G_QE) hr (by rfl) T.g_QE T.k_QE T.b_QE .nil Z9 (Zf (pv 0) (Zf Zy (Zf (pv 2) (Zf (pv 1) Zg))))))
 (Zn (YV (Yl (UK (cA:=⟨t.c,K⟩) (hr.units)) (ZC Yz (Yr (G_QC) hr (by rfl) T.g_QC T.k_QC T.b_QC .nil Z9 (Zf (pv 0) (Zf Zy Zg))) Zy) Zy (Yk _)) (Zu (Zx (i:=3) VV (by rfl) (by first|exact Or.inl rfl|exact Or.inr rfl) (Yr (G_QK) hr (by rfl) T.g_QK T.k_QK T.b_QK .nil Z9 (Zf (Yr (G_QD) hr (by rfl) T.g_QD T.k_QD T.b_QD .nil Z9 (Zf (pv 0) (Zf (pv 2) (Zf (pv 1) Zg)))) Zg)))) YU)
 (Zn (Zx (i:=4) VV (by rfl) (by first|exact Or.inl rfl|exact Or.inr rfl) (Zgd T.mk_Rooms (GM_QH) hr (by rfl) T.g_Rooms T.b_QH .nil Z9 (Zf (pv 1) (Zf (pv 3) Zg))))
 (Zn (Zx (i:=5) VV (by rfl) (by first|exact Or.inl rfl|exact Or.inr rfl) (Yr (G_QN) hr (by rfl) T.g_QN T.k_QN T.b_QN .nil Z9 (Zf (pv 4) Zg)))
 (Zn (Zx (i:=6) VV (by rfl) (by first|exact Or.inl rfl|exact Or.inr rfl) (Yr (G_QL) hr (by rfl) T.g_QL T.k_QL T.b_QL .nil Z9 (Zf (pv 3) Zg)))
 (Zn (YV (Yl (QB (cA:=⟨t.c,K⟩) (hr.units)) (Qw (K:=K) (pv 4)) (pv 3) (Yk _)) (Zu (Yd Qb)) YU)
 (Zn (YV (Vo (Jv (pv 6))) (Zu (Yd (ZhP (Jv (pv 5))))) YU)
 (Zu (Yd (Zfi (ZQ (Zft (K:=K)) (by rfl) T.n_isinstance boot_isinstance (Zf (pv 5) (Zf (Zc1 (v:=.ty "int") (by rfl) T.n_int boot_int rfl) Zg))) (Zfi (ZhR (ZQ (Zft (K:=K)) (by rfl) T.n_isinstance boot_isinstance (Zf (pv 5) (Zf (Zc1 (v:=.ty "bool") (by rfl) T.n_bool boot_bool rfl) Zg)))) (ZhQ (Zc6 (UK (cA:=⟨t.c,K⟩) (hr.units)) (pv 5) (pv 6) (Yk _)))))))))))))))),[],?_⟩
 unfold f_QO;exact(ZA (show VS _ _ [] _ _ _ _ from(Z8 1 (YB [] (by rfl) (Zh (YB [] (by rfl) (Zh (Zd 0) (Zh (Zr (d:=(.int 0)) (by rfl) (by rfl)) Zl))) Zl))))
 (ZA (show VS _ _ [] _ _ _ _ from(Z8 2 (Zk YQ (Zr (d:=(.int 1)) (by rfl) (by rfl)) (Zk YA (YB [] (by rfl) (Zh (Zd 0) (Zh (Zr (d:=(.int 1)) (by rfl) (by rfl)) Zl))) (Zr (d:=(.int 6)) (by rfl) (by rfl))))))
 (ZA (show VS _ _ [] _ _ _ _ from(Z8 3 (YB [] (by rfl) (Zh (Zd 0) (Zh (Zr (d:=(.int 3)) (by rfl) (by rfl)) (Zh (Zd 2) (Zh (Zd 1) Zl)))))))
 (ZA (Xp (YL (Zk UL (Zk YA (YB [] (by rfl) (Zh (Zd 0) (Zh (Zr (d:=(.int 2)) (by rfl) (by rfl)) Zl))) (Zr (d:=(.int 2)) (by rfl) (by rfl))) (Zr (d:=(.int 1)) (by rfl) (by rfl)))) (show VS _ _ [] _ _ _ _ from(Z8 3 (YB [] (by rfl) (Zh (YB [] (by rfl) (Zh (Zd 0) (Zh (Zd 2) (Zh (Zd 1) Zl)))) Zl)))) Xo)
 (ZA (show VS _ _ [] _ _ _ _ from(Z8 4 (Zgn (c:="Rooms") [] (by rfl) (Zh (Zd 1) (Zh (Zd 3) Zl)))))
 (ZA (show VS _ _ [] _ _ _ _ from(Z8 5 (YB [] (by rfl) (Zh (Zd 4) Zl))))
 (ZA (show VS _ _ [] _ _ _ _ from(Z8 6 (YB [] (by rfl) (Zh (Zd 3) Zl))))
 (ZA (Xp (YL (Zk QC (QO T.fl_ways (Zd 4)) (Zd 3))) (Yv (Zr (d:=(.bl false)) (by rfl) (by rfl))) Xo)
 (ZA (Xp (Vy (JZ (Zd 6))) (Yv (JZ (Zd 5))) Xo)
 (Yv (Zfq (Zfu (λ_ h=>h) T.isi_int (Zd 5)) (Zfq (Zh8 (Zfu (λ_ h=>h) T.isi_bool (Zd 5))) (Zk UL (Zd 5) (Zd 6))))))))))))))
end
end K17
namespace K17
open DL L2
theorem U9(ns:List Int)(k:Nat):Yu [.lst (ns.map D.int),.int k]=some (.int (ns.getD k 0)):=by
 by_cases h:k<ns.length
 · have hz : atI (ns.map D.int) (k : Int) = some (.int (ns.getD k 0)) := by
    refine JM ?_;rw [List.getElem?_map,List.getElem?_eq_getElem h,List.getD_eq_getElem?_getD,List.getElem?_eq_getElem h];rfl
   simp [Yu,f_QC,h,hz,DL.run,DL.runI,Ze,sIf,ZD,Zhy,sNext,Zi,QJ,XO,Zhz,Zfs,xB,bD,Zkc,Ym,xOr,Za,eC,eOp,Xn,eOr,Vz,eIf,Y9,Xa,UO,Zfr,eUn,Zkd,eNil,Zb,ZM,YM,eCB,lenD,Zke,Zkf,ZE,Ve,Vf,YC,eSl,xP,Zkh,addD,Zka,Zkb,fdivD,modD,Y8,ixD,isD,eBM,Xs,Uf,kind,plainKinds,Vj,Zbu,Zdx,ZcU,ZcV,ZcW,UX,Zdy,ZfH,ZfI,ZfJ,List.lookup,Xk,CMul,PySem.sizeLine_eq,List.replicate]
 · have hz:ns.getD k 0=0:=by rw [List.getD_eq_getElem?_getD,List.getElem?_eq_none (by omega)];rfl
   simp [Yu,f_QC,h,hz,DL.run,DL.runI,Ze,sIf,ZD,Zhy,sNext,Zi,QJ,XO,Zhz,Zfs,xB,bD,Zkc,Ym,xOr,Za,eC,eOp,Xn,eOr,Vz,eIf,Y9,Xa,UO,Zfr,eUn,Zkd,eNil,Zb,ZM,YM,eCB,lenD,Zke,Zkf,ZE,Ve,Vf,YC,eSl,xP,Zkh,addD,Zka,Zkb,fdivD,modD,Y8,ixD,isD,eBM,Xs,Uf,kind,plainKinds,Vj,Zbu,Zdx,ZcU,ZcV,ZcW,UX,Zdy,ZfH,ZfI,ZfJ,List.lookup,Xk,CMul,PySem.sizeLine_eq,List.replicate]
structure Mk(M:List Nat):Prop where
 lo:2<=M.length
 hi:M.length<=4
 nd:M.Nodup
 cd:∀c∈M,c<128
def MS:List (List Nat):=[[48,49],[97,98],[120,121,122],[48,97,49,98],[98,97],[57,122,56]]
theorem ZjM:∀M∈MS,2<=M.length/\M.length<=4/\M.Nodup/\∀c∈M,c<128:=by decide
theorem Zfc(c:Int):∃M,Mk M/\Ja [.int c]=some (.str M):=by
 obtain⟨a,ha,hlt⟩:=U3 c (show 0<6 by decide);have hl:a<MS.length:=hlt;have hm:=ZjM _ (List.getElem_mem hl);refine⟨MS[a],⟨hm.1,hm.2.1,hm.2.2.1,hm.2.2.2⟩,XA (δ:=[some (.int c),none]) rfl ?_⟩;have t0:Zi 1 (ZM (Zb (eC (.str [48,49])) (Zb (eC (.str [97,98])) (Zb (eC (.str [120,121,122])) (Zb (eC (.str [48,97,49,98])) (Zb (eC (.str [98,97])) (Zb (eC (.str [57,122,56])) eNil))))))) [some (.int c),none]=some (.nx [some (.int c),some (.lst (MS.map D.str))]):=ZP (Ut (Zo rfl (Zo rfl (Zo rfl (Zo rfl (Zo rfl (Zo rfl nil_of)))))) (by show 6<=1000;decide))
 refine(Zt t0).trans (Y3 ((Zs (x:=.lst (MS.map D.str)) (y:=.int (a:Int)) rfl ((Zs (x:=.int c) (y:=.int 6) rfl rfl).trans ((Xz (by decide)).trans (by rw [<-ha];rfl)))).trans (VR ?_)));rw [List.getElem?_map,List.getElem?_eq_getElem hl];rfl
theorem YT{M:List Nat}(h:Mk M){i:Nat}{δ:DL.Env}(e:Za i δ=some (.str M)):eCB lenD (Zb (Za i) eNil) δ=some (.int (M.length:Int)):=(YG (Zo e nil_of)).trans (len_str (by have:=h.hi;omega))
theorem Ji{α:Type}{γ:D->DL.Env->Option DL.Env}{ε:DL.Env->Option D}{δ0:DL.Env}(g f:α->D):∀(xs:List α),(∀x∈xs,∃δ1,γ (g x) δ0=some δ1/\ε δ1=some (f x))->YN γ (λ_=>some true) ε δ0 (xs.map g)=some (xs.map f)
 | [],_=>rfl
 |x::xs,h=>by
  obtain⟨δ1,h1,h2⟩:=h x List.mem_cons_self;have ih:=Ji g f xs λy hy=>h y (List.mem_cons_of_mem _ hy)
  rw [List.map_cons,List.map_cons];unfold YN;rw [h1];dsimp only;rw [h2,ih]
theorem Zcf{α:Type}{γ:D->DL.Env->Option DL.Env}{τ:DL.Env->Option Bool}{ε:DL.Env->Option D}{δ0:DL.Env}(g:α->D)(f:α->Option D):∀(xs:List α),(∀x∈xs,∃δ1,γ (g x) δ0=some δ1/\τ δ1=some (f x).isSome/\∀y,f x=some y->ε δ1=some y)->YN γ τ ε δ0 (xs.map g)=some (xs.filterMap f)
 | [],_=>rfl
 |x::xs,h=>by
  obtain⟨δ1,h1,h2,h3⟩:=h x List.mem_cons_self;have ih:=Zcf g f xs λy hy=>h y (List.mem_cons_of_mem _ hy)
  rw [List.map_cons];unfold YN;rw [h1];dsimp only;rw [h2];cases hf:f x with
  |none=>rw [List.filterMap_cons_none hf];exact ih
  |some y=>
   rw [List.filterMap_cons_some hf];dsimp only [Option.isSome];rw [h3 y hf,ih]
abbrev Wy:=List (List (Option Nat))
def oD:Option Nat->D
 |none => .non
 |some a => .int (a:Int)
def Zv(r:List (Option Nat)):D := .lst (r.map oD)
def ZL(r:List (Option Nat)):D := .tup (r.map oD)
structure Ok1(m n:Nat)(r:List (Option Nat)):Prop where
 ln:r.length=n
 pl:∀a,some a∈r->a<m
structure Ok(m n:Nat)(W:Wy):Prop where
 m0:0<m
 m6:m<=6
 n2:2<=n
 n4:n<=4
 ln:W.length=m
 rw:∀r∈W,Ok1 m n r
def ZI(W:Wy):D := .lst (W.map Zv)
def put(W:Wy)(a k:Nat)(x:Option Nat):Wy:=W.set a ((W.getD a []).set k x)
theorem Ok1.set{m n:Nat}{r:List (Option Nat)}{k:Nat}{x:Nat}(h:Ok1 m n r)(hx:x<m):Ok1 m n (r.set k (some x)):=⟨by rw [List.length_set];exact h.ln,λa ha=>by
 rcases List.mem_or_eq_of_mem_set ha with h1|h1
 · exact h.pl a h1
 · cases h1;exact hx⟩
theorem Ok.row{m n:Nat}{W:Wy}(h:Ok m n W){a:Nat}(ha:a<m):∃r,W[a]? = some r/\W.getD a []=r/\Ok1 m n r:=by
 have hl:a<W.length:=by rw [h.ln];exact ha
 refine⟨W[a],List.getElem?_eq_getElem hl,?_,h.rw _ (List.getElem_mem hl)⟩;rw [List.getD_eq_getElem?_getD,List.getElem?_eq_getElem hl];rfl
theorem Ok.put{m n:Nat}{W:Wy}(h:Ok m n W){a k x:Nat}(ha:a<m)(hx:x<m):Ok m n (put W a k (some x)):=by
 obtain⟨r,h1,h2,h3⟩:=h.row ha;refine⟨h.m0,h.m6,h.n2,h.n4,by unfold K17.put;rw [List.length_set];exact h.ln,λr' hr' => ?_⟩;unfold K17.put at hr';rcases List.mem_or_eq_of_mem_set hr' with h4|h4
 · exact h.rw r' h4
 · rw [h4,h2];exact h3.set hx
theorem ZdC{i:Nat}{κ1 κ2 ε:DL.Env->Option D}{δ:DL.Env}{m n:Nat}{W:Wy}(h:Ok m n W){a k x:Nat}(ha:a<m)(hk:k<n)(hv:Za i δ=some (ZI W))(h1:κ1 δ=some (.int (a:Int)))(h2:κ2 δ=some (.int (k:Int)))(h3:ε δ=some (.int (x:Int))):XS i κ1 κ2 ε δ=some (.nx (δ.set i (some (ZI (put W a k (some x)))))):=by
 obtain⟨r,hr1,hr2,hr3⟩:=h.row ha;have hW:=h.ln;have e1:Va ε δ=some (.int (x:Int)):=by unfold Va;rw [h3];rfl
 unfold XS;rw [e1,hv,h1,h2];unfold ZI;dsimp only;rw [List.length_map,Zbv (by omega)];dsimp only;rw [List.getElem?_map,hr1]
 show(match ixN (r.map oD).length (k:Int)with
  |some l=>some (Out.nx (δ.set i (some (.lst ((W.map Zv).set a (.lst ((r.map oD).set l (.int (x:Int)))))))))
  |none=>none)=_
 rw [List.length_map,Zbv (by rw [hr3.ln];exact hk)];dsimp only;unfold put;rw [hr2,List.map_set];unfold Zv;rw [List.map_set];rfl
theorem ZcZ{κ0 κ1:DL.Env->Option D}{δ:DL.Env}{m n:Nat}{W:Wy}(h:Ok m n W){a:Nat}(ha:a<m)(hv:κ0 δ=some (ZI W))(h1:κ1 δ=some (.int (a:Int))):eOp ixD κ0 κ1 δ=some (Zv (W.getD a [])):=by
 obtain⟨r,hr1,hr2,hr3⟩:=h.row ha;rw [hr2];exact(Zs hv h1).trans (VR (by rw [List.getElem?_map,hr1];rfl))
theorem Zg4{i:Nat}{φ:DL.Env->Option Out}{δ δ':DL.Env}(h:φ (δ.set i none)=some (.nx δ'))(hi:δ'[i]? = some none):ZK i φ δ=some (.nx (δ'.set i ((δ[i]?).getD none))):=by
 unfold ZK;rw [h];dsimp only;rw [hi]
theorem Zis{i j:DL.Env->Option D}{δ:DL.Env}{s n:Nat}(h1:i δ=some (.int (s:Int)))(h2:j δ=some (.int (n:Int)))(hn:0<n)(hn4:n<=100):eOp fdivD i j δ=some (.int ((s / n:Nat):Int)):=by
 refine(Zs h1 h2).trans ((Q0 ⟨by omega,by omega⟩).trans ?_);rw [Int.natCast_ediv]
theorem ZfN{i j:DL.Env->Option D}{δ:DL.Env}{s n:Nat}(h1:i δ=some (.int (s:Int)))(h2:j δ=some (.int (n:Int)))(hn:0<n):eOp modD i j δ=some (.int ((s % n:Nat):Int)):=by
 refine(Zs h1 h2).trans ((Xz (by omega)).trans ?_);rw [Int.natCast_emod]
theorem Uw(a n:Nat)(hn:n<=100){i j:DL.Env->Option D}{δ:DL.Env}(h1:i δ=some (.int (a:Int)))(h2:j δ=some (.int (n:Int))):eOp mulX i j δ=some (.int ((a*n:Nat):Int)):=by
 refine(Zs h1 h2).trans ((Zek (by omega) (by omega)).trans ?_);rw [Int.natCast_mul]
theorem cyc{N p s:Nat}(hp:p<N)(hs:s<N)(hne:s≠p):(p+N-(s+1) % N) % N<(p+N-s) % N:=by
 by_cases h:s+1<N
 · rw [Nat.mod_eq_of_lt h]
   by_cases h2:s<p
   · have e1 : (p + N - (s + 1)) % N = p - (s + 1) := by
      rw [show p+N-(s+1)=(p-(s+1))+N by omega,Nat.add_mod_right,Nat.mod_eq_of_lt (by omega)]
     have e2:(p+N-s) % N=p-s:=by
      rw [show p+N-s=(p-s)+N by omega,Nat.add_mod_right,Nat.mod_eq_of_lt (by omega)]
     omega
   · rw [Nat.mod_eq_of_lt (show p+N-(s+1)<N by omega),Nat.mod_eq_of_lt (show p+N-s<N by omega)]
     omega
 · have e:s+1=N:=by omega
   rw [e,Nat.mod_self,Nat.sub_zero,Nat.add_mod_right,Nat.mod_eq_of_lt hp,Nat.mod_eq_of_lt (show p+N-s<N by omega)];omega
abbrev tkK(tk:List Nat):List Key:=tk.map λt:Nat=>(.inl (t:Int):Key)
def TK(tk:List Nat):D := .dct (tkK tk) (tk.map λ_ => .bl true)
theorem ZaN(t:Nat):∀tk:List Nat,Y0 (.inl (t:Int)) (tkK tk)=decide (t∈tk)
 | []=>by simp [Y0,tkK]
 |u::tk=>by
  show(decide ((.inl (u:Int):Key) = .inl (t:Int))||Y0 (.inl (t:Int)) (tkK tk))=_;rw [ZaN t tk]
  by_cases h:u=t
  · subst h
    simp
  · have h2:¬t=u:=λz=>h z.symm
    have h3:¬((.inl (u:Int):Key) = .inl (t:Int)):=λz=>by
     have:=Sum.inl.inj z;omega
    simp [h2,h3]
theorem Zg5{i:Nat}{κ:DL.Env->Option D}{δ:DL.Env}{tk:List Nat}{t:Nat}(h1:Za i δ=some (TK tk))(h2:κ δ=some (.int (t:Int)))(hn:t∉tk)(hl:tk.length<=1000):Xw i κ (eC (.bl true)) δ=some (.nx (δ.set i (some (TK (tk++[t]))))):=by
 unfold Xw;rw [h1,h2];show(if(tkK tk).length<PySem.sizeLine then some (Out.nx (δ.set i (some (Ui (tkK tk) (tk.map λ_ => .bl true) (.inl (t:Int)) (.bl true)))))else none)=_;rw [if_pos (by rw [List.length_map,PySem.sizeLine_eq];omega)];unfold Ui;rw [ZaN,decide_eq_false hn,if_neg (by simp)];unfold TK tkK;rw [List.map_append,List.map_append];rfl
theorem pig:∀(N:Nat)(tk:List Nat),(∀p,p<N->p∈tk)->N<=tk.length
 |0,_,_=>Nat.zero_le _
 |N+1,tk,h=>by
  have hm:=h N (Nat.lt_succ_self N);have ih:=pig N (tk.erase N) λp hp=>(List.mem_erase_of_ne (by omega)).mpr (h p (by omega))
  rw [List.length_erase_of_mem hm]at ih;have:=List.length_pos_of_mem hm;omega
theorem VW{i:Nat}{φ:DL.Env->Option Out}{δ δ0 δ' δ'':DL.Env}(e:δ.set i none=δ0)(h:φ δ0=some (.nx δ'))(hi:δ'[i]? = some none)(hr:δ'.set i ((δ[i]?).getD none)=δ''):ZK i φ δ=some (.nx δ''):=by
 subst e hr;exact Zg4 h hi
theorem Zg6{i k:Nat}{δ:DL.Env}{xs r:List D}(h1:Za i δ=some (.lst xs))(h2:Za k δ=some (.lst r))(hl:xs.length<=1000)(hs:r.all Zj=true):VL i k δ=some (.nx ((δ.set k none).set i (some (.lst (xs++[.lst r]))))):=by
 unfold VL;rw [h1,h2];exact if_pos ⟨by rw [PySem.sizeLine_eq];omega,hs⟩
theorem Jj(r:List (Option Nat)):(r.map oD).all Zj=true:=by
 rw [List.all_map];exact List.all_eq_true.mpr λx _=>by cases x<;>rfl
theorem ZfO{i:Nat}{ε:DL.Env->Option D}{δ:DL.Env}{d:D}(h:ε δ=some d)(hi:i<δ.length):YZ i ε δ=some (.nx (δ.set i (some d))):=by
 unfold YZ;rw [h];exact if_pos hi
end K17
namespace K17
open DL L2
theorem Zg7{n:Nat}{f:DL.Env->Option Out}{vs:List D}{δ:DL.Env}{d:D}(h1:(vs.map some++List.replicate (n-vs.length) none)=δ)(h2:f δ=some (.rt d)):DL.runF n f vs=some d:=by
 unfold DL.runF;rw [h1,h2]
theorem ZdD{a b:DL.Env->Option Out}{δ δ':DL.Env}(h:a δ=some (.nx δ')):Xu a b δ=b δ':=by
 unfold Xu;rw [h]
abbrev TE9(ns:List Int)(m:Nat)(M:List Nat)(v4 v5 v6 v7 v8:Option D):DL.Env:=[some (.lst (ns.map D.int)),some (.int 3),some (.int (m:Int)),some (.str M),v4,v5,v6,v7,v8]
def el(m:Nat)(c:Int):Option Nat:=if 2<c / (m:Int) % 5 then none else some (c % (m:Int)).toNat
noncomputable def ta1:DL.Env->Option Out:=(Zi 8 (ZE 2 Yu [] (Zb (Za 0) (Zb (eOp addX (eOp addX (Za 1) (eOp mulX (Za 5) (eCB lenD (Zb (Za 3) eNil)))) (Za 7)) eNil))))
noncomputable def taE:DL.Env->Option D:=(eOp ixD (ZM (Zb (eOp modD (Za 8) (Za 2)) (Zb (eC .non) eNil))) (eCB intD (Zb (eOp (Y8 λi j=>decide (j<i)) (eOp modD (eOp fdivD (Za 8) (Za 2)) (eC (.int 5))) (eC (.int 2))) eNil)))
noncomputable def taF:DL.Env->Option Out:=(ZJ (ZB (Zb (eCB lenD (Zb (Za 3) eNil)) eNil)) (Zp 7) (Ze ta1 (Yj 6 taE)))
theorem Zfd:f_QF=Xu (YZ 4 (ZM eNil)) (Xu (ZJ (ZB (Zb (Za 2) eNil)) (Zp 5) (Ze (ZK 4 (Zi 6 (ZM eNil))) (Ze (ZK 4 taF) (VL 4 6)))) (ZD (Za 4))):=rfl
theorem Zit(ns:List Int)(m:Nat)(hm:0<m)(hm6:m<=6)(M:List Nat)(c:Int)(v4 v5 v6 v7:Option D):taE (TE9 ns m M v4 v5 v6 v7 (some (.int c)))=some (oD (el m c)):=by
 have h1:eOp modD (Za 8) (Za 2) (TE9 ns m M v4 v5 v6 v7 (some (.int c)))=some (.int (c % (m:Int))):=(Zs (x:=.int c) (y:=.int (m:Int)) rfl rfl).trans (Xz (by omega));have h2:eOp modD (eOp fdivD (Za 8) (Za 2)) (eC (.int 5)) (TE9 ns m M v4 v5 v6 v7 (some (.int c)))=some (.int (c / (m:Int) % 5)):=(Zs (x:=.int (c / (m:Int))) (y:=.int 5) ((Zs (x:=.int c) (y:=.int (m:Int)) rfl rfl).trans (Q0 (Zag (by omega) (by omega)))) rfl).trans (Xz (by decide))
 have h3:eCB intD (Zb (eOp (Y8 λi j=>decide (j<i)) (eOp modD (eOp fdivD (Za 8) (Za 2)) (eC (.int 5))) (eC (.int 2))) eNil) (TE9 ns m M v4 v5 v6 v7 (some (.int c)))=some (.int (if decide (2<c / (m:Int) % 5)then 1 else 0)):=(YG (Zo (x:=.bl (decide (2<c / (m:Int) % 5))) ((Zs (y:=.int 2) h2 rfl).trans rfl) nil_of)).trans rfl;refine(Zs (Ut (Zo h1 (Zo (x:=.non) rfl nil_of)) (by show 2<=1000;decide)) h3).trans ?_
 unfold el
 by_cases h:2<c / (m:Int) % 5
 · rw [if_pos h,decide_eq_true h]
   rfl
 · rw [if_neg h,decide_eq_false h]
   show some (D.int (c % (m:Int)))=some (D.int (((c % (m:Int)).toNat:Nat):Int));rw [Int.toNat_of_nonneg (Int.emod_nonneg _ (by omega))]
theorem ZjN{m:Nat}(hm:0<m){c:Int}{t:Nat}(h:el m c=some t):t<m:=by
 unfold el at h
 by_cases hc:2<c / (m:Int) % 5
 · rw [if_pos hc]at h;cases h
 · rw [if_neg hc]at h
   cases h;have:=Int.emod_lt_of_pos c (show 0<(m:Int) by omega);have:=Int.emod_nonneg c (show(m:Int)≠0 by omega);omega
theorem Ziu(ns:List Int)(m:Nat){M:List Nat}(hM:Mk M)(a k:Nat)(v4 v6 v8:Option D):∃c,ta1 (TE9 ns m M v4 (some (.int (a:Int))) v6 (some (.int (k:Int))) v8)=some (.nx (TE9 ns m M v4 (some (.int (a:Int))) v6 (some (.int (k:Int))) (some (.int c)))):=by
 have hhi:=hM.hi;refine⟨_,ZP ((YR (n:=2) (ds:=[.lst (ns.map D.int),.int ((3+a*M.length+k:Nat):Int)]) (Zo rfl (Zo ?_ nil_of)) rfl).trans (U9 ns _))⟩;refine(Zs (x:=.int ((3+a*M.length:Nat):Int)) (y:=.int (k:Int)) ((Zs (x:=.int 3) (y:=.int ((a*M.length:Nat):Int)) rfl (Uw a M.length (by omega) rfl (YT hM rfl))).trans ?_) rfl).trans ?_
 · rw [add_int]
   exact congrArg (λz=>some (D.int z)) (by omega)
 · rw [add_int]
   exact congrArg (λz=>some (D.int z)) (by omega)
theorem Ziv(ns:List Int)(m:Nat){M:List Nat}(hM:Mk M)(hm:0<m)(hm6:m<=6)(a:Nat)(v7 v8:Option D):∃r w7 w8,Ok1 m M.length r/\taF (TE9 ns m M none (some (.int (a:Int))) (some (.lst [])) v7 v8)=some (.nx (TE9 ns m M none (some (.int (a:Int))) (some (Zv r)) w7 w8)):=by
 have hhi:=hM.hi
 obtain⟨δ',h1,r,w7,w8,e,hl,hp⟩:=VQ (γ:=Zp 7) (φ:=Ze ta1 (Yj 6 taE)) (λk δ=>∃(r:List (Option Nat)) (v7 v8:Option D),δ=TE9 ns m M none (some (.int (a:Int))) (some (Zv r)) v7 v8/\r.length=k/\∀t,some t∈r->t<m) (ZO 0 1 M.length) 0 (TE9 ns m M none (some (.int (a:Int))) (some (.lst [])) v7 v8) ⟨[],_,_,rfl,rfl,λt z=>by cases z⟩ (by
  intro j x δ hx ⟨r,v7,v8,e,hl,hp⟩;subst e;obtain⟨hj,rfl⟩:=U1 hx;rw [Nat.zero_add]at hl ⊢;obtain⟨c,t1⟩:=Ziu ns m hM a j none (some (Zv r)) v8;refine⟨_,rfl,TE9 ns m M none (some (.int (a:Int))) (some (Zv (r++[el m c]))) (some (.int (j:Int))) (some (.int c)),(Zt t1).trans ((U0 (xs:=r.map oD) rfl (Zit ns m hm hm6 M c _ _ _ _) (by rw [List.length_map];omega)).trans ?_),_,_,_,rfl,by rw [List.length_append,hl];rfl,λt ht => ?_⟩
  · unfold Zv
    rw [List.map_append];rfl
  · rcases List.mem_append.mp ht with z|z
    · exact hp t z
    · exact ZjN hm (List.mem_singleton.mp z).symm)
 subst e;rw [Q1,Nat.zero_add]at hl;exact⟨r,w7,w8,⟨hl,hp⟩,YF ((XV (j:=(M.length:Int)) (Zo (YT hM rfl) nil_of) (by omega) (by omega)).trans (by rw [Int.toNat_natCast])) h1⟩
theorem Zfe(ns:List Int)(m:Nat){M:List Nat}(hM:Mk M)(hm:0<m)(hm6:m<=6):∃W,Ok m M.length W/\U6 [.lst (ns.map D.int),.int 3,.int (m:Int),.str M]=some (ZI W):=by
 have t0:YZ 4 (ZM eNil) (TE9 ns m M none none none none none)=some (.nx (TE9 ns m M (some (.lst (([]:Wy).map Zv))) none none none none)):=ZfO rfl (by show 4<9;decide)
 obtain⟨δ1,l1,W1,v5,v6,v7,v8,e1,hl1,hw1⟩:=VQ (γ:=Zp 5) (φ:=Ze (ZK 4 (Zi 6 (ZM eNil))) (Ze (ZK 4 taF) (VL 4 6))) (λk δ=>∃(W:Wy) (v5 v6 v7 v8:Option D),δ=TE9 ns m M (some (.lst (W.map Zv))) v5 v6 v7 v8/\W.length=k/\∀r∈W,Ok1 m M.length r) (ZO 0 1 m) 0 (TE9 ns m M (some (.lst (([]:Wy).map Zv))) none none none none) ⟨[],_,_,_,_,rfl,rfl,λr z=>by cases z⟩ (by
  intro j x δ hx ⟨W,v5,v6,v7,v8,e,hl,hw⟩;subst e;obtain⟨hj,rfl⟩:=U1 hx;rw [Nat.zero_add]at hl ⊢;obtain⟨r,w7,w8,hr,t2⟩:=Ziv ns m hM hm hm6 j v7 v8;have t1:ZK 4 (Zi 6 (ZM eNil)) (TE9 ns m M (some (.lst (W.map Zv))) (some (.int (j:Int))) v6 v7 v8)=some (.nx (TE9 ns m M (some (.lst (W.map Zv))) (some (.int (j:Int))) (some (.lst [])) v7 v8)):=VW (δ0:=TE9 ns m M none (some (.int (j:Int))) v6 v7 v8) (δ':=TE9 ns m M none (some (.int (j:Int))) (some (.lst [])) v7 v8) rfl (ZP rfl) rfl rfl
  have t3:ZK 4 taF (TE9 ns m M (some (.lst (W.map Zv))) (some (.int (j:Int))) (some (.lst [])) v7 v8)=some (.nx (TE9 ns m M (some (.lst (W.map Zv))) (some (.int (j:Int))) (some (Zv r)) w7 w8)):=VW (δ0:=TE9 ns m M none (some (.int (j:Int))) (some (.lst [])) v7 v8) (δ':=TE9 ns m M none (some (.int (j:Int))) (some (Zv r)) w7 w8) rfl t2 rfl rfl;refine⟨_,rfl,TE9 ns m M (some (.lst ((W++[r]).map Zv))) (some (.int (j:Int))) none w7 w8,(Zt t1).trans ((Zt t3).trans ((Zg6 (xs:=W.map Zv) (r:=r.map oD) rfl rfl (by rw [List.length_map];omega) (Jj r)).trans ?_)),W++[r],_,_,_,_,rfl,by rw [List.length_append,hl];rfl,λr' hr' => ?_⟩
  · rw [List.map_append]
    rfl
  · rcases List.mem_append.mp hr' with z|z
    · exact hw r' z
    · rw [List.mem_singleton.mp z];exact hr)
 subst e1;rw [Q1,Nat.zero_add]at hl1;refine⟨W1,⟨hm,hm6,hM.lo,hM.hi,hl1,hw1⟩,Zg7 (δ:=TE9 ns m M none none none none none) rfl ?_⟩;rw [Zfd,ZdD t0];exact(ZdD (YF ((XV (j:=(m:Int)) rfl (by omega) (by omega)).trans (by rw [Int.toNat_natCast])) l1)).trans rfl
noncomputable def lnE:DL.Env->Option D:=(eCB lenD (Zb (Za 3) eNil))
noncomputable def lv1:DL.Env->Option Out:=(Zi 7 (eOp modD (eOp fdivD (ZE 2 Yu [] (Zb (Za 0) (Zb (eOp addX (Za 1) (eOp mulX (Za 6) lnE)) eNil))) (eC (.int 60))) (eOp mulX (Za 6) lnE)))
noncomputable def lvT:DL.Env->Option Bool:=(xB (eOp (inK false) (Za 7) (Za 5)))
noncomputable def lvB:DL.Env->Option Out:=(Zi 7 (eOp modD (eOp addX (Za 7) (eC (.int 1))) (eOp mulX (Za 6) lnE)))
noncomputable def lv4:DL.Env->Option Out:=(XS 4 (eOp fdivD (Za 7) lnE) (eOp modD (Za 7) lnE) (Za 6))
noncomputable def lc1:DL.Env->Option Out:=(ZK 4 (Zi 8 (ZE 2 Yu [] (Zb (Za 0) (Zb (eOp addX (eOp addX (Za 1) (eOp mulX (Za 6) lnE)) (eC (.int 1))) eNil)))))
noncomputable def lc2:DL.Env->Option Out:=(XS 4 (Za 6) (eOp modD (eOp fdivD (Za 8) (eC (.int 7))) lnE) (eOp modD (Za 8) (Za 2)))
noncomputable def lcI:DL.Env->Option Out:=(sIf (xB (eOp eqD (eLM lcountD (eOp ixD (Za 4) (Za 6)) (eC .non)) lnE)) (Ze lc1 lc2) sNext)
def Jk:DL.Env->Option D:=(eCB Yi (Zb (Za 0) eNil))
theorem Zel:f_QE=Ze (YZ 4 (ZE 4 U6 [] (Zb (Za 0) (Zb (Za 1) (Zb (Za 2) (Zb (Za 3) eNil)))))) (Ze (ZK 4 (Zi 5 (eC (.dct [] [])))) (Ze (ZJ (ZB (Zb (eC (.int 1)) (Zb (Za 2) eNil))) (Zp 6) (Ze (ZK 4 lv1) (Ze (ZK 4 (Yo lvT lvB)) (Ze (ZK 4 (Xw 5 (Za 7) (eC (.bl true)))) lv4)))) (Ze (ZJ (ZB (Zb (Za 2) eNil)) (Zp 6) lcI) (ZD (eCB Yi (Zb (Yp (Z6 (Za 4)) (Zp 0) (λ_=>some true) Jk 1 []) eNil)))))):=rfl
theorem ZjO(t:Nat)(tk:List Nat):inK false (.int (t:Int)) (TK tk)=some (.bl (decide (t∈tk))):=by
 show some (D.bl (false != Y0 (.inl (t:Int)) (tkK tk)))=_;rw [ZaN];cases decide (t∈tk)<;>rfl
theorem Zem{N:Nat}{tk:List Nat}(h:tk.length<N):∃p,p<N/\p∉tk:=by
 apply Classical.byContradiction;intro hz;have:=pig N tk λp hp=>Classical.byContradiction λhn=>hz ⟨p,hp,hn⟩
 omega
theorem Zg8(ns:List Int)(m:Nat){M:List Nat}(hM:Mk M)(tk:List Nat)(a s0:Nat)(ha0:0<a)(ha:a<=6)(hf:tk.length<a*M.length)(hs0:s0<a*M.length)(v8:Option D) :
 ∃s,s<a*M.length/\s∉tk/\Yo lvT lvB (TE9 ns m M none (some (TK tk)) (some (.int (a:Int))) (some (.int (s0:Int))) v8)=some (.nx (TE9 ns m M none (some (TK tk)) (some (.int (a:Int))) (some (.int (s:Int))) v8)):=by
 have hhi:=hM.hi;obtain⟨p,hp,hpn⟩:=Zem hf;have hN:0<a*M.length:=by omega
 obtain⟨δ',h1,s,hs,e,hsn⟩:=Zah (τ:=lvT) (φ:=lvB) (λδ=>∃s,s<a*M.length/\δ=TE9 ns m M none (some (TK tk)) (some (.int (a:Int))) (some (.int (s:Int))) v8) (λδ=>∃s,s<a*M.length/\δ=TE9 ns m M none (some (TK tk)) (some (.int (a:Int))) (some (.int (s:Int))) v8/\s∉tk)
  (λδ=>match Za 7 δ with|some (.int s)=>(p+a*M.length-s.toNat) % (a*M.length)|_=>0) (by
    rintro δ ⟨s,hs,rfl⟩
    have e2:lvT (TE9 ns m M none (some (TK tk)) (some (.int (a:Int))) (some (.int (s:Int))) v8)=some (decide (s∈tk)):=Yx ((Zs (x:=.int (s:Int)) (y:=TK tk) rfl rfl).trans (ZjO s tk))
    by_cases hx:s∈tk
    · refine .inr ⟨by rw [e2,decide_eq_true hx],TE9 ns m M none (some (TK tk)) (some (.int (a:Int))) (some (.int (((s+1) % (a*M.length):Nat):Int))) v8,?_,⟨_,Nat.mod_lt _ hN,rfl⟩,?_⟩
      · refine ZP (ZfN (s:=s+1) (n:=a*M.length) ?_ (Uw a M.length (by omega) rfl (YT hM rfl)) hN)
        exact(Zs (x:=.int (s:Int)) (y:=.int 1) rfl rfl).trans rfl
      · show(p+a*M.length-(((s+1) % (a*M.length):Nat):Int).toNat) % (a*M.length)<(p+a*M.length-((s:Nat):Int).toNat) % (a*M.length)
        rw [Int.toNat_natCast,Int.toNat_natCast];exact cyc hp hs λz=>hpn (z▸hx)
    · exact .inl ⟨by rw [e2,decide_eq_false hx],s,hs,rfl,hx⟩) (TE9 ns m M none (some (TK tk)) (some (.int (a:Int))) (some (.int (s0:Int))) v8) ⟨s0,hs0,rfl⟩
 subst e;exact⟨s,hs,hsn,h1⟩
theorem Zg9(ns:List Int){m:Nat}{M:List Nat}(hM:Mk M){W:Wy}(h:Ok m M.length W)(tk:List Nat)(a:Nat)(ha0:0<a)(ha:a<m)(hf:tk.length+1=a)(v7 v8:Option D):∃W' p w7,Ok m M.length W' /\
 Ze (ZK 4 lv1) (Ze (ZK 4 (Yo lvT lvB)) (Ze (ZK 4 (Xw 5 (Za 7) (eC (.bl true)))) lv4)) (TE9 ns m M (some (ZI W)) (some (TK tk)) (some (.int (a:Int))) v7 v8)=some (.nx (TE9 ns m M (some (ZI W')) (some (TK (tk++[p]))) (some (.int (a:Int))) w7 v8)):=by
 have hhi:=hM.hi;have hlo:=hM.lo;have hm6:=h.m6;have hN:a*2<=a*M.length:=Nat.mul_le_mul_left a hlo;obtain⟨s0,hs0,hs0N⟩:=U3 (ns.getD (3+a*M.length) 0 / 60) (show 0<a*M.length by omega)
 have t:lv1 (TE9 ns m M none (some (TK tk)) (some (.int (a:Int))) v7 v8)=some (.nx (TE9 ns m M none (some (TK tk)) (some (.int (a:Int))) (some (.int (s0:Int))) v8)):=by
  refine ZP ((Zs (x:=.int (ns.getD (3+a*M.length) 0 / 60)) (y:=.int ((a*M.length:Nat):Int)) ((Zs (x:=.int (ns.getD (3+a*M.length) 0)) (y:=.int 60) ((YR (n:=2) (ds:=[.lst (ns.map D.int),.int ((3+a*M.length:Nat):Int)]) (Zo rfl (Zo ?_ nil_of)) rfl).trans (U9 ns _)) rfl).trans (Q0 (Zag (by decide) (by decide)))) (Uw a M.length (by omega) rfl (YT hM rfl))).trans ?_)
  · refine(Zs (x:=.int 3) (y:=.int ((a*M.length:Nat):Int)) rfl (Uw a M.length (by omega) rfl (YT hM rfl))).trans ?_
    rw [add_int];exact congrArg (λz=>some (D.int z)) (by omega)
  · rw [Xz (by omega),hs0]
 have t1:ZK 4 lv1 (TE9 ns m M (some (ZI W)) (some (TK tk)) (some (.int (a:Int))) v7 v8)=some (.nx (TE9 ns m M (some (ZI W)) (some (TK tk)) (some (.int (a:Int))) (some (.int (s0:Int))) v8)):=VW (δ0:=TE9 ns m M none (some (TK tk)) (some (.int (a:Int))) v7 v8) (δ':=TE9 ns m M none (some (TK tk)) (some (.int (a:Int))) (some (.int (s0:Int))) v8) rfl t rfl rfl;obtain⟨s,hs,hsn,tw⟩:=Zg8 ns m hM tk a s0 ha0 (by omega) (by omega) hs0N v8
 have t2:ZK 4 (Yo lvT lvB) (TE9 ns m M (some (ZI W)) (some (TK tk)) (some (.int (a:Int))) (some (.int (s0:Int))) v8)=some (.nx (TE9 ns m M (some (ZI W)) (some (TK tk)) (some (.int (a:Int))) (some (.int (s:Int))) v8)):=VW (δ0:=TE9 ns m M none (some (TK tk)) (some (.int (a:Int))) (some (.int (s0:Int))) v8) (δ':=TE9 ns m M none (some (TK tk)) (some (.int (a:Int))) (some (.int (s:Int))) v8) rfl tw rfl rfl
 have t3:ZK 4 (Xw 5 (Za 7) (eC (.bl true))) (TE9 ns m M (some (ZI W)) (some (TK tk)) (some (.int (a:Int))) (some (.int (s:Int))) v8)=some (.nx (TE9 ns m M (some (ZI W)) (some (TK (tk++[s]))) (some (.int (a:Int))) (some (.int (s:Int))) v8)):=VW (δ0:=TE9 ns m M none (some (TK tk)) (some (.int (a:Int))) (some (.int (s:Int))) v8) (δ':=TE9 ns m M none (some (TK (tk++[s]))) (some (.int (a:Int))) (some (.int (s:Int))) v8) rfl (Zg5 rfl rfl hsn (by omega)) rfl rfl
 have hsa:s / M.length<a:=(Nat.div_lt_iff_lt_mul (by omega)).mpr hs;have hsm:s % M.length<M.length:=Nat.mod_lt _ (by omega);refine⟨put W (s / M.length) (s % M.length) (some a),s,some (.int (s:Int)),h.put (by omega) ha,(Zt t1).trans ((Zt t2).trans ((Zt t3).trans ?_))⟩;exact(ZdC h (by omega) hsm rfl (Zis (s:=s) (n:=M.length) rfl (YT hM rfl) (by omega) (by omega)) (ZfN (s:=s) (n:=M.length) rfl (YT hM rfl) (by omega)) rfl).trans rfl
theorem Zha(ns:List Int){m:Nat}{M:List Nat}(hM:Mk M){W:Wy}(h:Ok m M.length W)(a:Nat)(ha:a<m)(v5 v7 v8:Option D):∃W' w8,Ok m M.length W'/\lcI (TE9 ns m M (some (ZI W)) v5 (some (.int (a:Int))) v7 v8)=some (.nx (TE9 ns m M (some (ZI W')) v5 (some (.int (a:Int))) v7 w8)):=by
 have hhi:=hM.hi;have hlo:=hM.lo;have hm6:=h.m6;have hm0:=h.m0
 have hcn:∃k:Nat,eLM lcountD (eOp ixD (Za 4) (Za 6)) (eC .non) (TE9 ns m M (some (ZI W)) v5 (some (.int (a:Int))) v7 v8)=some (.int (k:Int)):=by
  unfold eLM;rw [ZcZ h ha rfl rfl];unfold Zv;dsimp only;rw [show eC D.non (TE9 ns m M (some (ZI W)) v5 (some (.int (a:Int))) v7 v8)=some .non from rfl];dsimp only;rw [if_pos (by rw [Jj];rfl)];exact⟨_,rfl⟩
 obtain⟨k,hk⟩:=hcn;have e0:xB (eOp eqD (eLM lcountD (eOp ixD (Za 4) (Za 6)) (eC .non)) lnE) (TE9 ns m M (some (ZI W)) v5 (some (.int (a:Int))) v7 v8)=some (decide ((k:Int)=(M.length:Int))):=Yx ((Zs hk (YT hM rfl)).trans (Vj _ _))
 by_cases hz:(k:Int)=(M.length:Int)
 · obtain⟨x,hx,hxl⟩:=U3 (ns.getD (3+a*M.length+1) 0 / 7) (show 0<M.length by omega)
   obtain⟨y,hy,hyl⟩:=U3 (ns.getD (3+a*M.length+1) 0) hm0
   have t1:lc1 (TE9 ns m M (some (ZI W)) v5 (some (.int (a:Int))) v7 v8)=some (.nx (TE9 ns m M (some (ZI W)) v5 (some (.int (a:Int))) v7 (some (.int (ns.getD (3+a*M.length+1) 0))))):=by
    refine VW (δ0:=TE9 ns m M none v5 (some (.int (a:Int))) v7 v8) (δ':=TE9 ns m M none v5 (some (.int (a:Int))) v7 (some (.int (ns.getD (3+a*M.length+1) 0)))) rfl (ZP ((YR (n:=2) (ds:=[.lst (ns.map D.int),.int ((3+a*M.length+1:Nat):Int)]) (Zo rfl (Zo ?_ nil_of)) rfl).trans (U9 ns _))) rfl rfl;refine(Zs (x:=.int ((3+a*M.length:Nat):Int)) (y:=.int 1) ((Zs (x:=.int 3) (y:=.int ((a*M.length:Nat):Int)) rfl (Uw a M.length (by omega) rfl (YT hM rfl))).trans ?_) rfl).trans ?_
    · rw [add_int]
      exact congrArg (λz=>some (D.int z)) (by omega)
    · rw [add_int]
      exact congrArg (λz=>some (D.int z)) (by omega)
   refine⟨put W a x (some y),some (.int (ns.getD (3+a*M.length+1) 0)),h.put ha hyl,(XU (by rw [e0,decide_eq_true hz])).trans ((Zt t1).trans ?_)⟩;refine(ZdC (x:=y) h ha hxl rfl rfl ((Zs (x:=.int (ns.getD (3+a*M.length+1) 0 / 7)) (y:=.int (M.length:Int)) ((Zs (x:=.int (ns.getD (3+a*M.length+1) 0)) (y:=.int 7) rfl rfl).trans (Q0 (Zag (by decide) (by decide)))) (YT hM rfl)).trans ((Xz (by omega)).trans (by rw [hx]))) ((Zs (x:=.int (ns.getD (3+a*M.length+1) 0)) (y:=.int (m:Int)) rfl rfl).trans ((Xz (by omega)).trans (by rw [hy])))).trans rfl
 · exact⟨W,v8,h,(Xg (by rw [e0,decide_eq_false hz])).trans rfl⟩
theorem Zcg(f:List (Option Nat)->D)(hf:∀r,Yi [f r]=some (ZL r))(W:Wy):YN (Zp 0) (λ_=>some true) Jk [none] (W.map f)=some (W.map ZL):=Ji f ZL W λr _=>⟨[some (f r)],rfl,(YG (Zo (x:=f r) rfl nil_of)).trans (hf r)⟩
theorem Zff{n j:Nat}{x:D}(h:(ZO 1 1 n)[j]? = some x):j<n/\x = .int ((1+j:Nat):Int):=by
 obtain⟨h1,h2⟩:=Ze9 h;refine⟨h1,h2.trans (congrArg D.int (by omega))⟩
theorem Zen(ns:List Int)(m:Nat){M:List Nat}(hM:Mk M)(hm:0<m)(hm6:m<=6):∃W,Ok m M.length W/\Jb [.lst (ns.map D.int),.int 3,.int (m:Int),.str M]=some (.tup (W.map ZL)):=by
 obtain⟨W0,hW0,ht⟩:=Zfe ns m hM hm hm6;have t0:YZ 4 (ZE 4 U6 [] (Zb (Za 0) (Zb (Za 1) (Zb (Za 2) (Zb (Za 3) eNil))))) (TE9 ns m M none none none none none)=some (.nx (TE9 ns m M (some (ZI W0)) none none none none)):=ZfO ((YR (n:=4) (Zo rfl (Zo rfl (Zo rfl (Zo rfl nil_of)))) rfl).trans ht) (by show 4<9;decide);have t1:ZK 4 (Zi 5 (eC (.dct [] []))) (TE9 ns m M (some (ZI W0)) none none none none)=some (.nx (TE9 ns m M (some (ZI W0)) (some (TK [])) none none none)):=VW (δ0:=TE9 ns m M none none none none none) (δ':=TE9 ns m M none (some (TK [])) none none none) rfl (ZP rfl) rfl rfl
 obtain⟨δ2,l2,W2,tk,v6,v7,e2,hW2,_⟩:=VQ (γ:=Zp 6) (φ:=Ze (ZK 4 lv1) (Ze (ZK 4 (Yo lvT lvB)) (Ze (ZK 4 (Xw 5 (Za 7) (eC (.bl true)))) lv4))) (λk δ=>∃(W:Wy) (tk:List Nat) (v6 v7:Option D),δ=TE9 ns m M (some (ZI W)) (some (TK tk)) v6 v7 none/\Ok m M.length W/\tk.length=k) (ZO 1 1 (m-1)) 0 (TE9 ns m M (some (ZI W0)) (some (TK [])) none none none) ⟨W0,[],_,_,rfl,hW0,rfl⟩ (by
  intro j x δ hx ⟨W,tk,v6,v7,e,hW,hl⟩;subst e;obtain⟨hj,rfl⟩:=Zff hx;rw [Nat.zero_add]at hl ⊢;obtain⟨W',p,w7,h1,h2⟩:=Zg9 ns hM hW tk (1+j) (by omega) (by omega) (by omega) v7 none;exact⟨_,rfl,_,h2,W',tk++[p],_,_,rfl,h1,by rw [List.length_append,hl];rfl⟩)
 subst e2
 obtain⟨δ3,l3,W3,u6,u8,e3,hW3⟩:=VQ (γ:=Zp 6) (φ:=lcI) (λk δ=>∃(W:Wy) (v6 v8:Option D),δ=TE9 ns m M (some (ZI W)) (some (TK tk)) v6 v7 v8/\Ok m M.length W) (ZO 0 1 m) 0 (TE9 ns m M (some (ZI W2)) (some (TK tk)) v6 v7 none) ⟨W2,_,_,rfl,hW2⟩ (by
  intro j x δ hx ⟨W,v6,v8,e,hW⟩;subst e;obtain⟨hj,rfl⟩:=U1 hx;obtain⟨W',w8,h1,h2⟩:=Zha ns hM hW j hj (some (TK tk)) v7 v8;exact⟨_,rfl,_,h2,W',_,_,rfl,h1⟩)
 subst e3;refine⟨W3,hW3,XA (δ:=TE9 ns m M none none none none none) rfl ?_⟩;rw [Zel,Zt t0];refine(Zt t1).trans ?_;refine(Zt (YF ((ZfK (i:=1) (j:=(m:Int)) rfl (by omega) (by omega) (by omega) (by omega)).trans ?_) l2)).trans ?_
 · rw [show((m:Int)-1).toNat=m-1 by omega]
 refine(Zt (YF ((XV (j:=(m:Int)) rfl (by omega) (by omega)).trans (by rw [Int.toNat_natCast])) l3)).trans (Y3 ?_);exact(YG (Zo (U2 (xs:=W3.map Zv) rfl rfl (Zcg Zv (λr=>rfl) W3) (by rw [List.length_map,hW3.ln];omega)) nil_of)).trans rfl
def Zw(M:List Nat)(W:Wy):DL.D := .obj "Rooms" ["marks", "ways"] [.str M,.tup (W.map ZL)]
theorem Jl{M:List Nat}{W:Wy}{i:Nat}{δ:DL.Env}(h:Za i δ=some (Zw M W)):YC YS "ways" (Za i) δ=some (.tup (W.map ZL)):=by unfold YC;rw [h];rfl
theorem Zhb(M:List Nat)(W:Wy)(hl:W.length<=100):Q5 [.obj "Rooms" [] [],.str M,.tup (W.map ZL)]=some (Zw M W):=by
 have hc:=Zcg ZL (λr=>rfl) W;have he:∀x0,eCB Yi (Zb (Yp (Z6 (Za 2)) (Zp 0) (λ_=>some true) Jk 1 []) eNil) [x0,some (.str M),some (.tup (W.map ZL))]=some (.tup (W.map ZL)):=λx0=>(YG (Zo (U2 (xs:=W.map ZL) rfl rfl hc (by rw [List.length_map];omega)) nil_of)).trans rfl
 have hf:f_QH [some (.obj "Rooms" [] []),some (.str M),some (.tup (W.map ZL))]=some (.nx [some (Zw M W),some (.str M),some (.tup (W.map ZL))]):=by
  show Ze (XO 0 Q2 "marks" (Za 1)) (XO 0 YS "ways" (eCB Yi (Zb (Yp (Z6 (Za 2)) (Zp 0) (λ_=>some true) Jk 1 []) eNil))) _=_;rw [Zt (δ':=[some (.obj "Rooms" ["marks"] [.str M]),some (.str M),some (.tup (W.map ZL))]) rfl];unfold XO;rw [he];rfl
 show(match f_QH ([DL.D.obj "Rooms" [] [],.str M,.tup (W.map ZL)].map some++List.replicate (3-3) none)with
  |some (.nx δ)=>Za 0 δ
  |_=>none)=_
 rw [show([DL.D.obj "Rooms" [] [],.str M,.tup (W.map ZL)].map some++List.replicate (3-3) none)=[some (.obj "Rooms" [] []),some (.str M),some (.tup (W.map ZL))]from rfl,hf];rfl
def nD(a:Nat):D := .int (a:Int)
theorem Jm(n:Nat):ZO 0 1 n=(List.range n).map nD:=by
 unfold ZO nD;refine List.map_congr_left λk _=>congrArg D.int (by omega)
theorem ZaO{ε:DL.Env->Option D}{δ:DL.Env}{xs:List D}(h:ε δ=some (.lst xs)):Z6 ε δ=some xs:=by
 unfold Z6;rw [h]
end K17
namespace K17
open DL L2
section
variable{κ:Type} [DecidableEq κ]{F:κ->List κ}{ks:List κ}
def Z4(F:κ->List κ)(ks:List κ)(r:Nat):Prop:=∀k∈ks,Pl.Sb F r k=true
theorem ZjP{i j:Nat}(h:i<=j){k:κ}(e:Pl.Sb F i k=true):Pl.Sb F j k=true:=by
 induction h with
 |refl=>exact e
 |step _ ih=>exact Pl.Sb_mono _ _ ih
theorem ZfP(hc:∀k∈ks,∀o∈F k,o∈ks){j:Nat}(h:∀k∈ks,Pl.Lv F j k=false):∀(d:Nat)(k:κ),k∈ks->Pl.Sb F (j+d) k=true->Pl.Sb F j k=true
 |0,k,_,e=>e
 |d+1,k,hk,e=>by
  have h1:Pl.Sb F (j+1) k=true:=by
   show(F k).all (Pl.Sb F j)=true;have e':(F k).all (Pl.Sb F (j+d))=true:=e;rw [List.all_eq_true]at e' ⊢;exact λo ho=>ZfP hc h d o (hc k hk o ho) (e' o ho)
  have h2:=h k hk;unfold Pl.Lv at h2;rw [h1]at h2;simpa using h2
theorem Zbe(hc:∀k∈ks,∀o∈F k,o∈ks){j r:Nat}(h:∀k∈ks,Pl.Lv F j k=false)(hr:Z4 F ks r):Z4 F ks j:=λk hk=>by
 by_cases hj:r<=j
 · exact ZjP hj (hr k hk)
 · refine ZfP hc h (r-j) k hk ?_
   rw [show j+(r-j)=r by omega];exact hr k hk
theorem cnt_full{j:Nat}:Pl.cnt F ks j=ks.length ↔ Z4 F ks j:=by
 unfold Pl.cnt Z4;exact List.length_filter_eq_length_iff
theorem Zch{j:Nat}(h:¬∀k∈ks,Pl.Lv F j k=false):Pl.cnt F ks j+1<=Pl.cnt F ks (j+1)/\¬Z4 F ks j:=by
 have:∃k,k∈ks/\Pl.Lv F j k=true:=Classical.byContradiction λz=>h λk hk=>by
  cases e:Pl.Lv F j k with
  |false=>rfl
  |true=>exact absurd ⟨k,hk,e⟩ z
 obtain⟨k,hk,e⟩:=this;refine⟨?_,λz => ?_⟩
 · rw [Pl.cnt_succ]
   have:0<(ks.filter (Pl.Lv F j)).length:=List.length_pos_of_mem (List.mem_filter.mpr ⟨hk,e⟩);omega
 · unfold Pl.Lv at e
   rw [z k hk]at e;simp at e
theorem ZfQ(hc:∀k∈ks,∀o∈F k,o∈ks):∀(f j:Nat),ks.length+1<=f+Pl.cnt F ks j->(∀i,i<j->¬Z4 F ks i) ->
 (∃r,Z4 F ks r/\(∀i,i<r->¬Z4 F ks i)/\Pl.kah F ks f j=some r)\/((∀r,¬Z4 F ks r)/\Pl.kah F ks f j=none)
 |0,j,h,_=>by have:=Pl.cnt_le (F:=F) (ks:=ks) j;omega
 |f+1,j,h,hn=>by
  unfold Pl.kah
  by_cases hl:∀k∈ks,Pl.Lv F j k=false
  · rw [if_pos (by rw [List.all_eq_true];intro k hk;rw [hl k hk];rfl)]
    by_cases hf:Z4 F ks j
    · rw [if_pos (cnt_full.mpr hf)]
      exact .inl ⟨j,hf,hn,rfl⟩
    · rw [if_neg λz=>hf (cnt_full.mp z)]
      exact .inr ⟨λr hr=>hf (Zbe hc hl hr),rfl⟩
  · obtain⟨h1,h2⟩:=Zch hl
    rw [if_neg (λz=>hl λk hk=>by
     have:=List.all_eq_true.mp z k hk;simpa using this)]
    refine ZfQ hc f (j+1) (by omega) λi hi => ?_
    by_cases e:i=j
    · rw [e];exact h2
    · exact hn i (by omega)
theorem Zfg(hc:∀k∈ks,∀o∈F k,o∈ks){r:Nat}(hr:Z4 F ks r)(hn:∀i,i<r->¬Z4 F ks i):r<=ks.length:=by
 have:∀i,i<=r->i<=Pl.cnt F ks i:=λi=>by
  induction i with
  |zero=>exact λ_=>Nat.zero_le _
  |succ i ih=>
   intro hi;have h1:=ih (by omega);have h2:=(Zch (F:=F) (ks:=ks) (j:=i) λz=>hn i (by omega) (Zbe hc z hr)).1;omega
 exact Nat.le_trans (this r (Nat.le_refl _)) (Pl.cnt_le r)
end
abbrev Pr:=Nat×Nat
def Yy:Option Nat×Option Nat->Option Pr
 |(some x,some y)=>if x≠y then some (x,y)else none
 |_=>none
def nb(W:Wy)(p:Pr):List Pr:=((W.getD p.1 []).zip (W.getD p.2 [])).filterMap Yy
def sw(p:Pr):Pr:=(p.2,p.1)
theorem Zhc(x y:Option Nat):Yy (y,x)=(Yy (x,y)).map sw:=by
 cases x with
 |none=>cases y<;>rfl
 |some a=>
  cases y with
  |none=>rfl
  |some b=>
   show(if b≠a then some (b,a)else none)=(if a≠b then some (a,b)else none).map sw
   by_cases h:a=b
   · subst h;simp
   · rw [if_pos h,if_pos (λz=>h z.symm)];rfl
theorem ZfR:∀(r s:List (Option Nat)),(s.zip r).filterMap Yy=((r.zip s).filterMap Yy).map sw
 | [],s=>by simp
 |x::r,[]=>by simp
 |x::r,y::s=>by
  rw [List.zip_cons_cons,List.zip_cons_cons,List.filterMap_cons,List.filterMap_cons,Zhc,ZfR r s];cases Yy (x,y)with
  |none=>rfl
  |some p=>rfl
theorem ZjQ(W:Wy)(p:Pr):nb W (sw p)=(nb W p).map sw:=ZfR _ _
theorem ZhH(W:Wy):∀(j:Nat)(p:Pr),Pl.Sb (nb W) j (sw p)=Pl.Sb (nb W) j p
 |0,p=>rfl
 |j+1,p=>by
  show(nb W (sw p)).all (Pl.Sb (nb W) j)=(nb W p).all (Pl.Sb (nb W) j);rw [ZjQ,List.all_map]
  congr 1
  funext q
  exact ZhH W j q
theorem Zbx{x:Option Nat×Option Nat}{p:Pr}(h:Yy x=some p):x=(some p.1,some p.2)/\p.1≠p.2:=by
 obtain⟨a,b⟩:=x;cases a with
 |none=>cases h
 |some a=>
  cases b with
  |none=>cases h
  |some b=>
   have h:(if a≠b then some (a,b)else none)=some p:=h
   by_cases e:a=b
   · subst e;simp at h
   · rw [if_pos e]at h
     cases h;exact⟨rfl,e⟩
def In(m:Nat)(p:Pr):Prop:=p.1<m/\p.2<m/\p.1≠p.2
theorem nb_mem{W:Wy}{p x:Pr}:x∈nb W p ↔ (∃k:Nat,(W.getD p.1 [])[k]? = some (some x.1)/\(W.getD p.2 [])[k]? = some (some x.2))/\x.1≠x.2:=by
 unfold nb;rw [List.mem_filterMap];constructor
 · rintro⟨⟨a,b⟩,h1,h2⟩
   obtain⟨e,n⟩:=Zbx h2;cases e;obtain⟨k,hk⟩:=List.getElem?_of_mem h1;rw [List.getElem?_zip_eq_some]at hk;exact⟨⟨k,hk⟩,n⟩
 · rintro⟨⟨k,h1,h2⟩,n⟩
   refine⟨(some x.1,some x.2),List.mem_of_getElem? (List.getElem?_zip_eq_some.mpr ⟨h1,h2⟩),?_⟩;show(if x.1≠x.2 then some (x.1,x.2)else none)=_;rw [if_pos n]
theorem ZhI{m n:Nat}{W:Wy}(h:Ok m n W){p x:Pr}(hp:In m p)(hx:x∈nb W p):In m x:=by
 obtain⟨⟨k,h1,h2⟩,n0⟩:=nb_mem.mp hx;obtain⟨r,_,e1,o1⟩:=h.row hp.1;obtain⟨s,_,e2,o2⟩:=h.row hp.2.1;rw [e1]at h1;rw [e2]at h2;exact⟨o1.pl _ (List.mem_of_getElem? h1),o2.pl _ (List.mem_of_getElem? h2),n0⟩
theorem Zc0{m n:Nat}{W:Wy}(h:Ok m n W){p:Pr}(hp:In m p):(nb W p).length<=n:=by
 obtain⟨r,_,e1,o1⟩:=h.row hp.1;refine Nat.le_trans (List.length_filterMap_le _ _) ?_;rw [List.length_zip,e1,o1.ln];exact Nat.min_le_left _ _
structure Alls(m:Nat)(P:List Pr):Prop where
 nd:P.Nodup
 mem:∀p,p∈P ↔ In m p
structure Clo(W:Wy)(m:Nat)(Q:List Pr):Prop where
 nd:Q.Nodup
 sub:∀p∈Q,In m p
 beg:∀a b,a<b->b<m->(a,b)∈Q
 clo:∀p∈Q,∀o∈nb W p,o∈Q
theorem Qa{W:Wy}{m:Nat}{P Q:List Pr}(a:Alls m P)(c:Clo W m Q)(r:Nat):Z4 (nb W) Q r ↔ Z4 (nb W) P r:=by
 constructor
 · intro h p hp
   obtain⟨h1,h2,h3⟩:=(a.mem p).mp hp
   by_cases e:p.1<p.2
   · exact h p (c.beg _ _ e h2)
   · rw [<-ZhH]
     exact h (sw p) (c.beg _ _ (by omega) h1)
 · exact λh p hp=>h p ((a.mem p).mpr (c.sub p hp))
def key(x:Pr):List Key:=[.inl (x.1:Int),.inl (x.2:Int)]
theorem Jn{x y:Pr}(h:key x=key y):x=y:=by
 obtain⟨a,b⟩:=x;obtain⟨c,d⟩:=y;unfold key at h;simp only [List.cons.injEq,Sum.inl.injEq,and_true,Int.natCast_inj]at h;rw [h.1,h.2]
abbrev ky(Q:List Pr):List (List Key):=Q.map key
theorem ZjR{Q:List Pr}(h:Q.Nodup):(ky Q).Nodup:=List.Pairwise.map _ (λa b n z=>n (Jn z)) h
theorem Zby{α:Type}(g:Pr->α):∀{Q:List Pr}{x:Pr},x∈Q->Xx (key x) (ky Q) (Q.map g)=some (g x)
 | [],x,h=>by cases h
 |q::Q,x,h=>by
  show(if key q=key x then some (g q)else Xx (key x) (ky Q) (Q.map g))=_
  by_cases e:q=x
  · subst e;rw [if_pos rfl]
  · rw [if_neg λz=>e (Jn z)]
    exact Zby g ((List.mem_cons.mp h).resolve_left λz=>e z.symm)
theorem ZaP(x:Pr):∀Q:List Pr,Y2 (key x) (ky Q)=decide (x∈Q)
 | []=>rfl
 |q::Q=>by
  show(decide (key q=key x)||Y2 (key x) (ky Q))=_;rw [ZaP x Q]
  by_cases e:q=x
  · subst e;simp
  · have e2:key q≠key x:=λz=>e (Jn z)
    have e3:x≠q:=λz=>e z.symm
    simp [e2,e3]
theorem Ziw{F:Pr->List Pr}{G:List Key->List (List Key)}{Q:List Pr}(hG:∀q∈Q,G (key q)=(F q).map key)(hc:∀q∈Q,∀o∈F q,o∈Q):∀(f j:Nat),Pl.kah G (ky Q) f j=Pl.kah F Q f j:=by
 have sb:∀(j:Nat)(q:Pr),q∈Q->Pl.Sb G j (key q)=Pl.Sb F j q:=λj=>by
  induction j with
  |zero=>exact λq _=>rfl
  |succ j ih=>
   intro q hq;show(G (key q)).all (Pl.Sb G j)=(F q).all (Pl.Sb F j);rw [hG q hq,List.all_map];rw [Bool.eq_iff_iff,List.all_eq_true,List.all_eq_true];constructor
   · intro h o ho
     have:=h o ho;rw [Function.comp_apply,ih o (hc q hq o ho)]at this;exact this
   · intro h o ho
     rw [Function.comp_apply,ih o (hc q hq o ho)];exact h o ho
 have cn:∀j,Pl.cnt G (ky Q) j=Pl.cnt F Q j:=λj=>by
  unfold Pl.cnt ky;rw [List.filter_map,List.length_map]
  congr 1
  exact List.filter_congr λq hq=>sb j q hq
 intro f
 induction f with
 |zero=>exact λj=>rfl
 |succ f ih=>
  intro j;unfold Pl.kah;rw [cn,ih,List.length_map]
  have:(ky Q).all (λk => !Pl.Lv G j k)=Q.all λk => !Pl.Lv F j k:=by
   unfold ky;rw [List.all_map,Bool.eq_iff_iff,List.all_eq_true,List.all_eq_true];constructor
   · intro h q hq
     have:=h q hq;rw [Function.comp_apply]at this;unfold Pl.Lv at this ⊢;rw [sb _ q hq,sb _ q hq]at this;exact this
   · intro h q hq
     have:=h q hq;rw [Function.comp_apply];unfold Pl.Lv at this ⊢;rw [sb _ q hq,sb _ q hq];exact this
  rw [this]
end K17
namespace K17
open DL L2
def pD(p:Pr):D := .tup [nD p.1,nD p.2]
def zD(x:Option Nat×Option Nat):D := .tup [oD x.1,oD x.2]
theorem ZdE:∀r s:List (Option Nat),VC (r.map oD) (s.map oD)=(r.zip s).map zD
 | [],s=>rfl
 |x::r,[]=>rfl
 |x::r,y::s=>by
  show D.tup [oD x,oD y]::VC (r.map oD) (s.map oD)=_;rw [ZdE r s];rfl
theorem Jo{m n:Nat}{W:Wy}(h:Ok m n W){a:Nat}(ha:a<m){ε κ:DL.Env->Option D}{δ:DL.Env}(e1:ε δ=some (.tup (W.map ZL)))(e2:κ δ=some (nD a)):eOp ixD ε κ δ=some (ZL (W.getD a [])):=by
 obtain⟨r,h1,h2,_⟩:=h.row ha;refine(Zs e1 e2).trans (ix_tup ?_);rw [List.getElem?_map,h1,h2];rfl
noncomputable def foT:DL.Env->Option Bool:=(Ym (xB (eOp (inD true) (eC .non) (Za 0))) (xB (eOp neD (eOp ixD (Za 0) (eC (.int 0))) (eOp ixD (Za 0) (eC (.int 1))))))
theorem Zbp:Q6=Ze (Zi 2 (Up (eOp ixD (YC YS "ways" (Za 1)) (eOp ixD (Za 0) (eC (.int 0)))) (eOp ixD (YC YS "ways" (Za 1)) (eOp ixD (Za 0) (eC (.int 1)))))) (ZD (Yp (Z6 (Za 2)) (Zp 0) foT (Za 0) 1 [])):=rfl
theorem Zix(x:Option Nat×Option Nat):foT [some (zD x)]=some (Yy x).isSome:=by
 obtain⟨x,y⟩:=x;cases x with
 |none=>cases y<;>exact UZ rfl
 |some a=>
  cases y with
  |none=>exact UZ rfl
  |some b=>
   refine(UY rfl (Yx ((Zs (x:=.int (a:Int)) (y:=.int (b:Int)) rfl rfl).trans (UX _ _)))).trans ?_;show _=some (if a≠b then some (a,b)else none).isSome
   by_cases e:a=b
   · subst e;simp
   · rw [if_pos e]
     have:¬(a:Int)=(b:Int):=by omega
     simp [this]
theorem Ziy{x:Option Nat×Option Nat}{p:Pr}(h:Yy x=some p):zD x=pD p:=by
 rw [(Zbx h).1];rfl
theorem Zhd(l:List (Option Nat×Option Nat)):l.filterMap (λx=>(Yy x).map pD)=(l.filterMap Yy).map pD:=by
 rw [List.map_filterMap]
theorem ZcM{a b:DL.Env->Option D}{δ:DL.Env}{r s:List (Option Nat)}(h1:a δ=some (ZL r))(h2:b δ=some (ZL s))(hl:r.length<=1000):Up a b δ=some (.lst ((r.zip s).map zD)):=by
 unfold Up;rw [h1,h2];show(if(r.map oD).length<=PySem.sizeLine then some (D.lst (VC (r.map oD) (s.map oD)))else none)=_;rw [if_pos (by rw [List.length_map,PySem.sizeLine_eq];omega),ZdE]
theorem Zbq{M:List Nat}{m n:Nat}{W:Wy}(h:Ok m n W)(hn:n<=4){p:Pr}(hp:In m p):U4 [pD p,Zw M W]=some (.lst ((nb W p).map pD)):=by
 refine XA (δ:=[some (pD p),some (Zw M W),none]) rfl ?_;obtain⟨r,_,er,or⟩:=h.row hp.1;have hr:(W.getD p.1 []).length<=1000:=by rw [er,or.ln];omega
 have i0:eOp ixD (Za 0) (eC (.int 0)) [some (pD p),some (Zw M W),none]=some (nD p.1):=rfl;have i1:eOp ixD (Za 0) (eC (.int 1)) [some (pD p),some (Zw M W),none]=some (nD p.2):=rfl;rw [Zbp,Zt (ZP (ZcM (Jo h hp.1 (Jl rfl) i0) (Jo h hp.2.1 (Jl rfl) i1) hr))];refine Y3 (U2 (xs:=((W.getD p.1 []).zip (W.getD p.2 [])).map zD) (δ0:=[none]) rfl rfl ?_ ?_)
 · rw [Zcf zD (λx=>(Yy x).map pD) _ λx _=>⟨[some (zD x)],rfl,by rw [Zix,Option.isSome_map],λy hy => ?_⟩,Zhd]
   · rfl
   · cases hb:Yy x with
     |none=>rw [hb]at hy;cases hy
     |some q=>
      rw [hb]at hy;cases hy;rw [Ziy hb];rfl
 · rw [List.length_map]
   exact Nat.le_trans (Zc0 h hp) (by omega)
theorem Jp(p:Pr):YE (pD p)=some (key p):=rfl
theorem Zci:∀{l S:List Pr},l.Nodup->(∀x∈l,x∈S)->l.length<=S.length
 | [],S,_,_=>Nat.zero_le _
 |x::l,S,hn,hs=>by
  obtain⟨h1,h2⟩:=List.nodup_cons.mp hn;have hx:=hs x List.mem_cons_self;have h3:=Zci (l:=l) (S:=S.erase x) h2 λy hy=>(List.mem_erase_of_ne λz=>h1 (by rw [<-z];exact hy)).mpr (hs y (List.mem_cons_of_mem _ hy))
  rw [List.length_erase_of_mem hx]at h3;have:=List.length_pos_of_mem hx;rw [List.length_cons];omega
theorem Ux{m:Nat}(hm:m<=6){l:List Pr}(hn:l.Nodup)(h:∀p∈l,In m p):l.length<=36:=by
 have h1:=Zci (S:=(List.range 6).flatMap λa=>(List.range 6).map λb=>(a,b)) hn λp hp=>by
  obtain⟨h1,h2,_⟩:=h p hp;refine List.mem_flatMap.mpr ⟨p.1,List.mem_range.mpr (by omega),List.mem_map.mpr ⟨p.2,List.mem_range.mpr (by omega),rfl⟩⟩
 exact Nat.le_trans h1 (by decide)
theorem ZfS{α:Type}(g:Pr->α)(x:Pr):∀Q:List Pr,Y1 (key x) (g x) (ky Q) (Q.map g)=Q.map g
 | []=>rfl
 |q::Q=>by
  show(if key q=key x then g x else g q)::Y1 (key x) (g x) (ky Q) (Q.map g)=_;rw [ZfS g x Q]
  by_cases e:key q=key x
  · rw [if_pos e,Jn e];rfl
  · rw [if_neg e];rfl
def Y5(Q:List Pr)(x:Pr):List Pr:=if x∈Q then Q else Q++[x]
theorem addP_mem{Q:List Pr}{x y:Pr}:y∈Y5 Q x ↔ y∈Q\/y=x:=by
 unfold Y5
 by_cases h:x∈Q
 · rw [if_pos h]
   exact⟨.inl,λz=>z.elim id λe=>e▸h⟩
 · rw [if_neg h,List.mem_append,List.mem_singleton]
theorem Zbz{Q:List Pr}{x:Pr}(h:Q.Nodup):(Y5 Q x).Nodup:=by
 unfold Y5
 by_cases e:x∈Q
 · rw [if_pos e];exact h
 · rw [if_neg e,List.nodup_append]
   exact⟨h,by simp,λa ha b hb z=>e (by rw [List.mem_singleton]at hb;rw [<-hb,<-z];exact ha)⟩
theorem Ziz(g:Pr->D)(Q:List Pr)(x:Pr):Uk (ky Q) (Q.map g) (key x) (g x) = .dtt (ky (Y5 Q x)) ((Y5 Q x).map g):=by
 unfold Uk Y5;rw [ZaP]
 by_cases e:x∈Q
 · rw [if_pos (by simpa using e),if_pos e,ZfS]
 · rw [if_neg (by simpa using e),if_neg e]
   unfold ky;rw [List.map_append,List.map_append];rfl
theorem ZaQ{i:Nat}{κ ε:DL.Env->Option D}{δ:DL.Env}(g:Pr->D){Q:List Pr}{x:Pr}(hv:Za i δ=some (.dtt (ky Q) (Q.map g)))(hk:κ δ=some (pD x))(he:ε δ=some (g x))(hl:Q.length<=1000):Xe i κ ε δ=some (.nx (δ.set i (some (.dtt (ky (Y5 Q x)) ((Y5 Q x).map g))))):=by
 unfold Xe;rw [he,hv,hk];dsimp only;rw [Jp];dsimp only;rw [if_pos (by rw [List.length_map,PySem.sizeLine_eq];omega),Ziz]
theorem Zeo{κ i:DL.Env->Option D}{δ:DL.Env}(g:Pr->D){Q:List Pr}{x:Pr}(hk:κ δ=some (pD x))(hv:i δ=some (.dtt (ky Q) (Q.map g))):xB (eOp (VN true) κ i) δ=some (!decide (x∈Q)):=by
 refine Yx ((Zs hk hv).trans ?_);unfold VN;dsimp only;rw [Jp,<-ZaP];show some (D.bl (true != Y2 (key x) (ky Q)))=_;cases Y2 (key x) (ky Q)<;>rfl
theorem Zhe{κ i:DL.Env->Option D}{δ:DL.Env}(g:Pr->D){Q:List Pr}{x:Pr}(hv:i δ=some (.dtt (ky Q) (Q.map g)))(hk:κ δ=some (pD x))(hx:x∈Q):eOp VO i κ δ=some (g x):=by
 refine(Zs hv hk).trans ?_;unfold VO;dsimp only;rw [Jp];exact Zby g hx
def fwD(W:Wy)(q:Pr):D := .lst ((nb W q).map pD)
abbrev AE(B R:D)(W:Wy)(Q T:List Pr)(v:Option D):DL.Env:=[some B,none,some R,some (.dtt (ky Q) (Q.map (fwD W))),some (.lst (T.map pD)),v]
noncomputable def afT:DL.Env->Option Bool:=(xB (eOp (Y8 λi j=>decide (j<i)) (eCB lenD (Zb (Za 4) eNil)) (eC (.int 0))))
noncomputable def afI:DL.Env->Option Out:=(sIf (xB (eOp (VN true) (Za 5) (Za 3))) (Ze (Xe 3 (Za 5) (Xf 1 U4 (Zb (Za 5) eNil) (Zb (Za 2) eNil))) (Xd 4 (eOp VO (Za 3) (Za 5)))) sNext)
theorem ZiA:f_QB=Ze (Zi 3 (eC (.dtt [] []))) (Ze (Zi 4 (eCB UU (Zb (Za 0) eNil))) (Ze (Yo afT (Ze (Vi 5 4) afI)) (ZD (Za 3)))):=rfl
theorem ZfT(B R:D)(W:Wy)(Q T:List Pr)(v:Option D):afT (AE B R W Q T v)=some (decide (0<T.length)):=by
 refine Yx ((Zs (x:=.int (T.length:Int)) (y:=.int 0) ((YG (Zo (x:=.lst (T.map pD)) rfl nil_of)).trans (by rw [ZdA,List.length_map])) rfl).trans ?_);show some (D.bl (decide ((0:Int)<(T.length:Int))))=_
 congr 2
 exact decide_eq_decide.mpr (by omega)
theorem ZiB(B R:D)(W:Wy)(Q T:List Pr)(q:Pr)(v:Option D):Vi 5 4 (AE B R W Q (T++[q]) v)=some (.nx (AE B R W Q T (some (pD q)))):=by
 unfold Vi
 have e:Za 4 (AE B R W Q (T++[q]) v)=some (.lst (T.map pD++[pD q])):=by
  show some (D.lst ((T++[q]).map pD))=_;rw [List.map_append];rfl
 rw [e];dsimp only;rw [show(T.map pD++[pD q]).length-1=(T.map pD).length by simp,List.getElem?_append_right (Nat.le_refl _),Nat.sub_self,List.dropLast_concat];rfl
theorem Zcj{n:Nat}{mm:List D->Option D}{α κ:DL.Env->Option (List D)}{δ:DL.Env}{ds cs:List D}(h1:α δ=some ds)(h2:κ δ=some cs)(hn:ds.length=n):Xf n mm α κ δ=mm (ds++cs):=by
 unfold Xf;rw [h1,h2];exact if_pos hn
theorem ZfU{i:Nat}{ε:DL.Env->Option D}{δ:DL.Env}{xs ys:List D}(h1:Za i δ=some (.lst xs))(h2:ε δ=some (.lst ys))(hl:xs.length+ys.length<=100000):Xd i ε δ=some (.nx (δ.set i (some (.lst (xs++ys))))):=by
 unfold Xd;rw [h1,h2];exact if_pos (by rw [PySem.sizeLine_eq];omega)
structure AI(W:Wy)(m:Nat)(Q T:List Pr):Prop where
 nd:Q.Nodup
 sub:∀p∈Q,In m p
 sbt:∀p∈T,In m p
 beg:∀a b,a<b->b<m->(a,b)∈Q\/(a,b)∈T
 clo:∀p∈Q,∀o∈nb W p,o∈Q\/o∈T
 len:T.length<=1000
theorem Zhf{M:List Nat}{m n:Nat}{W:Wy}(h:Ok m n W)(hn:n<=4)(hm:m<=6)(B:D){Q T:List Pr}(q:Pr)(I:AI W m Q (T++[q]))(hl:(36-Q.length)*5+(T++[q]).length<=900)(v:Option D) :
 ∃Q' T',AI W m Q' T'/\(36-Q'.length)*5+T'.length<(36-Q.length)*5+(T++[q]).length/\Ze (Vi 5 4) afI (AE B (Zw M W) W Q (T++[q]) v)=some (.nx (AE B (Zw M W) W Q' T' (some (pD q)))):=by
 rw [Zt (ZiB B (Zw M W) W Q T q v)];have hq:In m q:=I.sbt q (List.mem_append_right _ (List.mem_singleton.mpr rfl));have ht:(!decide (q∈Q)) = !decide (q∈Q):=rfl;have h0:=Zeo (κ:=Za 5) (i:=Za 3) (δ:=AE B (Zw M W) W Q T (some (pD q))) (fwD W) (x:=q) rfl rfl;have hQl:=Ux hm I.nd I.sub;rw [List.length_append]at hl ⊢
 by_cases e:q∈Q
 · refine⟨Q,T,⟨I.nd,I.sub,λp hp=>I.sbt p (List.mem_append_left _ hp),λa b h1 h2 => ?_,λp hp o ho => ?_,?_⟩,?_,?_⟩
   · rcases I.beg a b h1 h2 with z|z
     · exact .inl z
     · rcases List.mem_append.mp z with z|z
       · exact .inr z
       · exact .inl (by rw [List.mem_singleton.mp z];exact e)
   · rcases I.clo p hp o ho with z|z
     · exact .inl z
     · rcases List.mem_append.mp z with z|z
       · exact .inr z
       · exact .inl (by rw [List.mem_singleton.mp z];exact e)
   · have:=I.len;rw [List.length_append]at this;omega
   · simp
   · exact Xg (by rw [h0];simp [e])
 · have eadd:Y5 Q q=Q++[q]:=if_neg e
   have nd':(Q++[q]).Nodup:=eadd▸Zbz I.nd
   have sub':∀p∈Q++[q],In m p:=λp hp=>by
    rcases List.mem_append.mp hp with z|z
    · exact I.sub p z
    · rw [List.mem_singleton.mp z];exact hq
   have hQl':=Ux hm nd' sub';rw [List.length_append,List.length_singleton]at hQl';have hb:=Zc0 h hq;rw [List.length_singleton]at hl;refine⟨Q++[q],T++nb W q,⟨nd',sub',λp hp => ?_,λa b h1 h2 => ?_,λp hp o ho => ?_,?_⟩,?_,?_⟩
   · rcases List.mem_append.mp hp with z|z
     · exact I.sbt p (List.mem_append_left _ z)
     · exact ZhI h hq z
   · rcases I.beg a b h1 h2 with z|z
     · exact .inl (List.mem_append_left _ z)
     · rcases List.mem_append.mp z with z|z
       · exact .inr (List.mem_append_left _ z)
       · exact .inl (List.mem_append_right _ z)
   · rcases List.mem_append.mp hp with z|z
     · rcases I.clo p z o ho with z|z
       · exact .inl (List.mem_append_left _ z)
       · rcases List.mem_append.mp z with z|z
         · exact .inr (List.mem_append_left _ z)
         · exact .inl (List.mem_append_right _ z)
     · rw [List.mem_singleton.mp z]at ho
       exact .inr (List.mem_append_right _ ho)
   · rw [List.length_append];omega
   · rw [List.length_append,List.length_append,List.length_singleton];omega
   · have c1:Xf 1 U4 (Zb (Za 5) eNil) (Zb (Za 2) eNil) (AE B (Zw M W) W Q T (some (pD q)))=some (fwD W q):=(Zcj (ds:=[pD q]) (cs:=[Zw M W]) rfl rfl rfl).trans (Zbq h hn hq)
     have p1:=ZaQ (i:=3) (κ:=Za 5) (δ:=AE B (Zw M W) W Q T (some (pD q))) (fwD W) (Q:=Q) rfl rfl c1 (by omega);rw [eadd]at p1;refine(XU (by rw [h0];simp [e])).trans ((Zt p1).trans ?_);have g1:=Zhe (κ:=Za 5) (i:=Za 3) (δ:=AE B (Zw M W) W (Q++[q]) T (some (pD q))) (fwD W) (Q:=Q++[q]) (x:=q) rfl rfl (List.mem_append_right _ (List.mem_singleton.mpr rfl));refine(ZfU (i:=4) (xs:=T.map pD) (ys:=(nb W q).map pD) rfl g1 (by rw [List.length_map,List.length_map];omega)).trans ?_
     rw [<-List.map_append];rfl
theorem ZiC{M:List Nat}{m n:Nat}{W:Wy}(h:Ok m n W)(hn:n<=4)(hm:m<=6){B:List Pr}(hB:∀p∈B,In m p)(hBb:∀a b,a<b->b<m->(a,b)∈B)(hl:B.length<=100):∃Q,Clo W m Q/\Q7 [.lst (B.map pD),Zw M W]=some (.dtt (ky Q) (Q.map (fwD W))):=by
 have I0:AI W m [] B:=⟨List.nodup_nil,λp hp=>(by cases hp),hB,λa b h1 h2 => .inr (hBb a b h1 h2),λp hp=>(by cases hp),by omega⟩
 obtain⟨δ',hw,Q,v,I,rfl⟩:=Zah (τ:=afT) (φ:=Ze (Vi 5 4) afI) (λδ=>∃Q T v,AI W m Q T/\(36-Q.length)*5+T.length<=900/\δ=AE (.lst (B.map pD)) (Zw M W) W Q T v) (λδ=>∃Q v,AI W m Q []/\δ=AE (.lst (B.map pD)) (Zw M W) W Q [] v)
  (λδ=>match δ with
    | [_,_,_,some (.dtt ks _),some (.lst ts),_]=>(36-ks.length)*5+ts.length
    |_=>0) (λδ ⟨Q,T,v,I,hl,e⟩=>by
    subst e;rcases List.eq_nil_or_concat T with rfl|⟨T',q,rfl⟩
    · exact .inl ⟨by rw [ZfT];rfl,Q,v,I,rfl⟩
    · rw [List.concat_eq_append]at *
      obtain⟨Q',T2,I',hlt,e'⟩:=Zhf (M:=M) h hn hm (.lst (B.map pD)) q I hl v;refine .inr ⟨by rw [ZfT];simp,_,e',⟨Q',T2,_,I',by omega,rfl⟩,?_⟩;show(36-(ky Q').length)*5+(T2.map pD).length<(36-(ky Q).length)*5+((T'++[q]).map pD).length;rw [List.length_map,List.length_map,List.length_map,List.length_map];exact hlt) (AE (.lst (B.map pD)) (Zw M W) W [] B none) ⟨[],B,none,I0,by simp;omega,rfl⟩
 refine⟨Q,⟨I.nd,I.sub,λa b h1 h2=>(I.beg a b h1 h2).resolve_right (by simp),λp hp o ho=>(I.clo p hp o ho).resolve_right (by simp)⟩,?_⟩
 have hb:f_QB [some (.lst (B.map pD)),none,some (Zw M W),none,none,none]=some (.rt (.dtt (ky Q) (Q.map (fwD W)))):=by
  rw [ZiA,Zt (ZP rfl),Zt (ZP (d:=.lst (B.map pD)) ?_)]
  · exact(Zt hw).trans (Y3 rfl)
  · exact(YG (Zo (x:=.lst (B.map pD)) rfl nil_of)).trans rfl
 show(match f_QB [some (.lst (B.map pD)),none,some (Zw M W),none,none,none]with
  |some (.rt d)=>some d
  |some (.nx _)=>some .non
  |_=>none)=_
 rw [hb]
end K17
namespace K17
open DL L2
theorem ZdF:∀l:List Pr,Lg.kysT (l.map pD)=some (l.map key)
 | []=>rfl
 |p::l=>by
  show(match YE (pD p),Lg.kysT (l.map pD)with
   |some k,some l=>some (k::l)
   |_,_=>none)=_
  rw [ZdF l,Jp];rfl
theorem Zck(W:Wy):∀Q:List Pr,Lg.rowsT (Q.map (fwD W))=some (Q.map λq=>(nb W q).map key)
 | []=>rfl
 |p::Q=>by
  show(match Lg.kysT ((nb W p).map pD),Lg.rowsT (Q.map (fwD W))with
   |some a,some l=>some (a::l)
   |_,_=>none)=_
  rw [Zck W Q,ZdF];rfl
theorem Zcl{κ:Type}{F:κ->List κ}{c:Nat}:∀{ks:List κ},(∀k∈ks,(F k).length<=c)->(Pl.edges F ks).length<=ks.length*c
 | [],_=>by simp [Pl.edges]
 |k::ks,h=>by
  have h1:=h k List.mem_cons_self;have h2:=Zcl (ks:=ks) λx hx=>h x (List.mem_cons_of_mem _ hx)
  unfold Pl.edges at h2 ⊢;rw [List.flatMap_cons,List.length_append,List.length_map,List.length_cons,Nat.succ_mul];omega
theorem Zf7(W:Wy){Q:List Pr}{q:Pr}(hq:q∈Q):Lg.Fo (ky Q) (Q.map λq=>(nb W q).map key) (key q)=(nb W q).map key:=by
 unfold Lg.Fo;rw [Zby _ hq];rfl
theorem ZcN{M:List Nat}{m n:Nat}{W:Wy}(h:Ok m n W)(hn:n<=4)(hm:m<=6){B:List Pr}(hB:∀p∈B,In m p)(hBb:∀a b,a<b->b<m->(a,b)∈B)(hl:B.length<=100):∃Q,Clo W m Q/\U5 [.lst (B.map pD),Zw M W]=some (Lg.resD (Pl.kah (nb W) Q (Q.length+1) 0)):=by
 obtain⟨Q,c,e⟩:=ZiC (M:=M) h hn hm hB hBb hl;refine⟨Q,c,?_⟩;show Lg.longD (Q7 [.lst (B.map pD),Zw M W])=_;rw [e];unfold Lg.longD;dsimp only;rw [Zck];dsimp only;have hQl:=Ux hm c.nd c.sub
 have hcl:∀k∈ky Q,∀o∈Lg.Fo (ky Q) (Q.map λq=>(nb W q).map key) k,o∈ky Q:=λk hk o ho=>by
  obtain⟨q,hq,rfl⟩:=List.mem_map.mp hk;rw [Zf7 W hq]at ho;obtain⟨p,hp,rfl⟩:=List.mem_map.mp ho;exact List.mem_map.mpr ⟨p,c.clo q hq p hp,rfl⟩
 have hed:(Pl.edges (Lg.Fo (ky Q) (Q.map λq=>(nb W q).map key)) (ky Q)).length<=(ky Q).length*4:=Zcl λk hk=>by
  obtain⟨q,hq,rfl⟩:=List.mem_map.mp hk;rw [Zf7 W hq,List.length_map];exact Nat.le_trans (Zc0 h (c.sub q hq)) hn
 have hkl:(ky Q).length=Q.length:=List.length_map ..;rw [if_pos ⟨ZjR c.nd,by rw [List.length_map,List.length_map],hcl,by omega⟩,Ziw (λq hq=>Zf7 W hq) c.clo,hkl]
theorem Zbf{α:Type}{γ:D->DL.Env->Option DL.Env}{φ:DL.Env->Option Out}(g:α->D)(I:List α->DL.Env->Prop)(all:List α)(step:∀(dn:List α)(x:α)(tl:List α)(δ:DL.Env),all=dn++x::tl->I dn δ->∃δ1,γ (g x) δ=some δ1/\∃δ2,φ δ1=some (.nx δ2)/\I (dn++[x]) δ2) :
 ∀(rest dn:List α)(δ:DL.Env),all=dn++rest->I dn δ->∃δ',ZR γ φ (rest.map g) δ=some (.nx δ')/\I all δ'
 | [],dn,δ,e,h=>⟨δ,rfl,by rw [e,List.append_nil];exact h⟩
 |x::rest,dn,δ,e,h=>by
  obtain⟨δ1,h1,δ2,h2,h3⟩:=step dn x rest δ e h;obtain⟨δ',h4,h5⟩:=Zbf g I all step rest (dn++[x]) δ2 (by rw [e,List.append_assoc];rfl) h3;refine⟨δ',?_,h5⟩;rw [List.map_cons];unfold ZR;rw [h1];dsimp only;rw [h2];exact h4
theorem VY{α:Type}{γ:D->DL.Env->Option DL.Env}{φ:DL.Env->Option Out}(g:α->D)(I:List α->DL.Env->Prop)(all:List α)(δ:DL.Env)(h0:I [] δ)(step:∀(dn:List α)(x:α)(tl:List α)(δ:DL.Env),all=dn++x::tl->I dn δ->∃δ1,γ (g x) δ=some δ1/\∃δ2,φ δ1=some (.nx δ2)/\I (dn++[x]) δ2) :
 ∃δ',ZR γ φ (all.map g) δ=some (.nx δ')/\I all δ':=Zbf g I all step all [] δ rfl h0
theorem Jq{m:Nat}{dn tl:List Nat}{x:Nat}(e:List.range m=dn++x::tl):dn.length<m/\x<m:=by
 have h1:=congrArg List.length e;rw [List.length_range,List.length_append,List.length_cons]at h1;exact⟨by omega,List.mem_range.mp (by rw [e];exact List.mem_append_right _ List.mem_cons_self)⟩
theorem Zhg(M:List Nat)(W:Wy):ZiY [Zw M W]=some (.int (W.length:Int)):=by
 refine XA (δ:=[some (Zw M W)]) rfl (Y3 ((YG (Zo (Jl rfl) nil_of)).trans ?_));rw [Zbw,List.length_map]
theorem Zep{M:List Nat}{W:Wy}{i:Nat}{δ:DL.Env}(h:Za i δ=some (Zw M W)):Vf "many" Q8 (Za i) eNil δ=some (.int (W.length:Int)):=by
 unfold Vf;rw [h];exact Zhg M W
abbrev ME(R:D)(m:Nat)(B:List Pr)(v3:Option D):DL.Env:=[some R,some (nD m),some (.lst (B.map pD)),v3,none]
noncomputable def meC:DL.Env->Option D:=(Yp (ZB (Zb (eOp addX (Za 3) (eC (.int 1))) (Zb (Za 1) eNil))) (Zp 0) (λ_=>some true) (YM (Zb (Za 1) (Zb (Za 0) eNil))) 1 [3])
theorem Zeq:f_QN=Ze (Zi 1 (Vf "many" Q8 (Za 0) eNil)) (Ze (Zi 2 (ZM eNil)) (Ze (ZJ (ZB (Zb (Za 1) eNil)) (Zp 3) (Xd 2 meC)) (QW 4 (ZD (Xf 1 U5 (Zb (Za 2) eNil) (Zb (Za 0) eNil)))))):=rfl
def behind(m a:Nat):List Pr:=(List.range (m-(a+1))).map λt=>(a,a+1+t)
theorem ZiD(R:D){m a:Nat}(hm:m<=6)(ha:a<m)(B:List Pr):meC (ME R m B (some (nD a)))=some (.lst ((behind m a).map pD)):=by
 have hi:ZB (Zb (eOp addX (Za 3) (eC (.int 1))) (Zb (Za 1) eNil)) (ME R m B (some (nD a)))=some (ZO ((a:Int)+1) 1 ((m:Int)-((a:Int)+1)).toNat):=
  ZfK (Zo ((Zs (x:=.int (a:Int)) (y:=.int 1) rfl rfl).trans (add_int _ _)) (Zo (x:=.int (m:Int)) rfl nil_of)) (by omega) (by omega) (by omega) (by omega)
 have hr:ZO ((a:Int)+1) 1 ((m:Int)-((a:Int)+1)).toNat=(List.range (m-(a+1))).map λt:Nat=>D.int ((a:Int)+1+(t:Nat)*1):=by
  unfold ZO;rw [show((m:Int)-((a:Int)+1)).toNat=m-(a+1) by omega]
 rw [hr]at hi
 have hc:=Ji (γ:=Zp 0) (ε:=YM (Zb (Za 1) (Zb (Za 0) eNil))) (δ0:=[none,some (nD a)]) (λt:Nat=>D.int ((a:Int)+1+(t:Nat)*1)) (λt=>pD (a,a+1+t)) (List.range (m-(a+1))) λt _=>⟨[some (D.int ((a:Int)+1+(t:Nat)*1)),some (nD a)],rfl,(ZcY (Zo (x:=nD a) rfl (Zo (x:=D.int ((a:Int)+1+(t:Nat)*1)) rfl nil_of)) (by show 2<=1000;decide)).trans (by
  unfold pD nD;rw [show((a:Int)+1+(t:Nat)*1)=((a+1+t:Nat):Int) by omega])⟩
 have:=U2 (n:=1) (js:=[3]) (δ:=ME R m B (some (nD a))) hi rfl hc (by rw [List.length_map,List.length_range];omega);refine this.trans ?_;unfold behind;rw [List.map_map];rfl
theorem Zer{M:List Nat}{m n:Nat}{W:Wy}(h:Ok m n W)(hn:n<=4)(hm:m<=6):∃Q,Clo W m Q/\Q9 [Zw M W]=some (Lg.resD (Pl.kah (nb W) Q (Q.length+1) 0)):=by
 have hWl:W.length=m:=h.ln
 obtain⟨δ',hf,B,v3,rfl,b1,b2,b3⟩:=VY (γ:=Zp 3) (φ:=Xd 2 meC) nD (λdn δ=>∃B v3,δ=ME (Zw M W) m B v3/\(∀p∈B,In m p)/\(∀a b,a∈dn->a<b->b<m->(a,b)∈B)/\B.length<=dn.length*6) (List.range m) (ME (Zw M W) m [] none)
  ⟨[],none,rfl,λp hp=>(by cases hp),λa b ha=>(by cases ha),Nat.zero_le _⟩ λdn a tl δ ha ⟨B,v3,e,b1,b2,b3⟩=>by
    subst e;obtain⟨hdn,ha'⟩:=Jq ha;refine⟨ME (Zw M W) m B (some (nD a)),rfl,?_⟩;have hbig:B.length<=10000:=by omega
    · refine⟨ME (Zw M W) m (B++behind m a) (some (nD a)),?_,B++behind m a,some (nD a),rfl,λp hp => ?_,λx y hx hxy hy => ?_,?_⟩
      · refine(ZfU (i:=2) (xs:=B.map pD) rfl (ZiD (Zw M W) hm ha' B) (by rw [List.length_map,List.length_map];unfold behind;rw [List.length_map,List.length_range];omega)).trans ?_
        rw [<-List.map_append];rfl
      · rcases List.mem_append.mp hp with z|z
        · exact b1 p z
        · obtain⟨t,ht,rfl⟩:=List.mem_map.mp z
          have:=List.mem_range.mp ht;exact⟨ha',by show a+1+t<m;omega,by show a≠a+1+t;omega⟩
      · rcases List.mem_append.mp hx with z|z
        · exact List.mem_append_left _ (b2 x y z hxy hy)
        · rw [List.mem_singleton.mp z]at hxy ⊢
          refine List.mem_append_right _ (List.mem_map.mpr ⟨y-(a+1),List.mem_range.mpr (by omega),?_⟩);show(a,a+1+(y-(a+1)))=(a,y)
          rw [show a+1+(y-(a+1))=y by omega]
      · unfold behind
        rw [List.length_append,List.length_append,List.length_map,List.length_range,List.length_singleton];omega
 rw [List.length_range]at b3;obtain⟨Q,c,e⟩:=ZcN (M:=M) h hn hm b1 (λa b h1 h2=>b2 a b (List.mem_range.mpr (by omega)) h1 h2) (by omega);refine⟨Q,c,XA (δ:=[some (Zw M W),none,none,none,none]) rfl ?_⟩;rw [Zeq,Zt (ZP (Zep rfl)),Zt (ZP (Ut nil_of (by decide)))];have e1:∀x:Option D,[some (Zw M W),none,none,none,none].set 1 (some (D.int (W.length:Int)))=[some (Zw M W),some (nD m),none,none,none]:=λ_=>by rw [hWl];rfl
 rw [e1 none]
 have hi:ZB (Zb (Za 1) eNil) (ME (Zw M W) m [] none)=some ((List.range m).map nD):=by
  refine(XV (Zo (x:=.int (m:Int)) rfl nil_of) (by omega) (by omega)).trans ?_;rw [<-Jm];rfl
 exact(Zt (YF hi hf)).trans (Y3 ((Zcj (ds:=[.lst (B.map pD)]) (cs:=[Zw M W]) rfl rfl rfl).trans e))
end K17
namespace K17
open DL L2
abbrev WT(W:Wy):D := .tup (W.map ZL)
abbrev tr(_:Pr):D := .bl true
abbrev tD(P:List Pr):D := .dtt (ky P) (P.map tr)
theorem ZdG{m n:Nat}{W:Wy}(h:Ok m n W){a k:Nat}(ha:a<m)(hk:k<n){ε κ κ2:DL.Env->Option D}{δ:DL.Env}(e1:ε δ=some (WT W))(e2:κ δ=some (nD a))(e3:κ2 δ=some (nD k)):∃x,(W.getD a [])[k]? = some x/\eOp ixD (eOp ixD ε κ) κ2 δ=some (oD x):=by
 obtain⟨r,_,er,o⟩:=h.row ha;have hl:k<(W.getD a []).length:=by rw [er,o.ln];exact hk
 refine⟨(W.getD a [])[k],List.getElem?_eq_getElem hl,(Zs (Jo h ha e1 e2) e3).trans (ix_tup ?_)⟩;rw [List.getElem?_map,List.getElem?_eq_getElem hl];rfl
abbrev NE(W:Wy)(P:List Pr)(v3 v4 v5 v6:Option D):DL.Env:=[some (WT W),none,some (tD P),v3,v4,v5,v6]
noncomputable def nx1:DL.Env->Option Out:=(Zi 6 (YM (Zb (eOp ixD (eOp ixD (Za 0) (Za 3)) (Za 5)) (Zb (eOp ixD (eOp ixD (Za 0) (Za 4)) (Za 5)) eNil))))
noncomputable def nxT:DL.Env->Option Bool:=(Ym (xB (Xa (eOp ixD (Za 6) (eC (.int 0))))) (Ym (xB (Xa (eOp ixD (Za 6) (eC (.int 1))))) (xB (eOp neD (eOp ixD (Za 6) (eC (.int 0))) (eOp ixD (Za 6) (eC (.int 1)))))))
noncomputable def nx2:DL.Env->Option Out:=(sIf nxT (Xe 2 (Za 6) (eC (.bl true))) sNext)
noncomputable def nxB:DL.Env->Option Out:=(ZJ (ZB (Zb (eCB lenD (Zb (eOp ixD (Za 0) (Za 3)) eNil)) eNil)) (Zp 5) (Ze nx1 nx2))
theorem Zhh:f_QJ=Ze (Zi 2 (eC (.dtt [] []))) (Ze (Us [2] 1 2 (Xb 3 (Xb 4 gsNil)) nxB) (ZD (Za 2))):=rfl
theorem ZiE(W:Wy)(P:List Pr)(v3 v4 v5:Option D)(x:Option Nat×Option Nat):nxT (NE W P v3 v4 v5 (some (zD x)))=some (Yy x).isSome:=by
 obtain⟨x,y⟩:=x;cases x with
 |none=>cases y<;>exact UZ rfl
 |some a=>
  cases y with
  |none=>exact(UY rfl (UZ rfl))
  |some b=>
   refine(UY rfl (UY rfl (Yx ((Zs (x:=.int (a:Int)) (y:=.int (b:Int)) rfl rfl).trans (UX _ _))))).trans ?_;show _=some (if a≠b then some (a,b)else none).isSome
   by_cases e:a=b
   · subst e;simp
   · rw [if_pos e]
     have:¬(a:Int)=(b:Int):=by omega
     simp [this]
def Hit(W:Wy)(a b k:Nat)(x:Pr):Prop:=(W.getD a [])[k]? = some (some x.1)/\(W.getD b [])[k]? = some (some x.2)/\x.1≠x.2
theorem Zhi{m n:Nat}{W:Wy}(h:Ok m n W){P:List Pr}(hnd:P.Nodup)(hin:∀p∈P,In m p){a b k:Nat}(ha:a<m)(hb:b<m)(hk:k<n)(v6:Option D) :
 ∃P' w6,P'.Nodup/\(∀p∈P',In m p)/\(∀x,x∈P' ↔ x∈P\/Hit W a b k x)/\Ze nx1 nx2 (NE W P (some (nD a)) (some (nD b)) (some (nD k)) v6)=some (.nx (NE W P' (some (nD a)) (some (nD b)) (some (nD k)) w6)):=by
 obtain⟨x,hx,ex⟩:=ZdG h ha hk (ε:=Za 0) (κ:=Za 3) (κ2:=Za 5) (δ:=NE W P (some (nD a)) (some (nD b)) (some (nD k)) v6) rfl rfl rfl;obtain⟨y,hy,ey⟩:=ZdG h hb hk (ε:=Za 0) (κ:=Za 4) (κ2:=Za 5) (δ:=NE W P (some (nD a)) (some (nD b)) (some (nD k)) v6) rfl rfl rfl;have t1:nx1 (NE W P (some (nD a)) (some (nD b)) (some (nD k)) v6)=some (.nx (NE W P (some (nD a)) (some (nD b)) (some (nD k)) (some (zD (x,y))))):=ZP (ZcY (Zo ex (Zo ey nil_of)) (by show 2<=1000;decide))
 have t2:=ZiE W P (some (nD a)) (some (nD b)) (some (nD k)) (x,y);rw [Zt t1];cases hb2:Yy (x,y)with
 |none=>
  rw [hb2]at t2;refine⟨P,_,hnd,hin,λz=>⟨.inl,λq=>q.elim id λ⟨g1,g2,g3⟩ => ?_⟩,Xg t2⟩;rw [hx]at g1;rw [hy]at g2;cases g1;cases g2;have:(if z.1≠z.2 then some (z.1,z.2)else none)=none:=hb2;rw [if_pos g3]at this;cases this
 |some p=>
  rw [hb2]at t2;obtain⟨e1,e2⟩:=Zbx hb2;cases e1
  have hp:In m p:=by
   obtain⟨r,_,er,o⟩:=h.row ha;obtain⟨s,_,es,o2⟩:=h.row hb;rw [er]at hx;rw [es]at hy;exact⟨o.pl _ (List.mem_of_getElem? hx),o2.pl _ (List.mem_of_getElem? hy),e2⟩
  have hl:=Ux h.m6 hnd hin;refine⟨Y5 P p,some (zD (some p.1,some p.2)),Zbz hnd,λq hq => ?_,λz => ?_,(XU t2).trans ?_⟩
  · rcases addP_mem.mp hq with z|z
    · exact hin q z
    · rw [z];exact hp
  · rw [addP_mem]
    refine⟨λq=>q.elim .inl λe => .inr (by rw [e];exact⟨hx,hy,e2⟩),λq=>q.elim .inl λ⟨g1,g2,g3⟩ => .inr ?_⟩;rw [hx]at g1;rw [hy]at g2;obtain⟨z1,z2⟩:=z;obtain⟨p1,p2⟩:=p;cases g1;cases g2;rfl
  · exact ZaQ (i:=2) (κ:=Za 6) (ε:=eC (.bl true)) (δ:=NE W P (some (nD a)) (some (nD b)) (some (nD k)) (some (zD (some p.1,some p.2)))) tr (x:=p) rfl rfl rfl (by omega)
theorem ZiF{m n:Nat}{W:Wy}(h:Ok m n W){P:List Pr}(hnd:P.Nodup)(hin:∀p∈P,In m p){p:Pr}(hp:In m p)(v5 v6:Option D) :
 ∃P' w5 w6,P'.Nodup/\(∀p∈P',In m p)/\(∀x,x∈P' ↔ x∈P\/x∈nb W p)/\nxB (NE W P (some (nD p.1)) (some (nD p.2)) v5 v6)=some (.nx (NE W P' (some (nD p.1)) (some (nD p.2)) w5 w6)):=by
 obtain⟨r,_,er,o⟩:=h.row hp.1;have hn4:=h.n4
 have hi:ZB (Zb (eCB lenD (Zb (eOp ixD (Za 0) (Za 3)) eNil)) eNil) (NE W P (some (nD p.1)) (some (nD p.2)) v5 v6)=some ((List.range n).map nD):=by
  refine(XV (j:=(n:Int)) (Zo ((YG (Zo (Jo h hp.1 rfl rfl) nil_of)).trans ?_) nil_of) (by omega) (by omega)).trans ?_
  · rw [show ZL (W.getD p.1 []) = .tup ((W.getD p.1 []).map oD)from rfl,Zbw,List.length_map,er,o.ln]
  · rw [<-Jm];rfl
 obtain⟨δ',hf,P',w5,w6,rfl,c1,c2,c3⟩:=VY (γ:=Zp 5) (φ:=Ze nx1 nx2) nD (λdn δ=>∃P' w5 w6,δ=NE W P' (some (nD p.1)) (some (nD p.2)) w5 w6/\P'.Nodup/\(∀p∈P',In m p)/\∀x,x∈P' ↔ x∈P\/∃k∈dn,Hit W p.1 p.2 k x) (List.range n) (NE W P (some (nD p.1)) (some (nD p.2)) v5 v6)
  ⟨P,v5,v6,rfl,hnd,hin,λx=>⟨.inl,λz=>z.elim id λ⟨k,hk,_⟩=>by cases hk⟩⟩ λdn k tl δ e ⟨P1,w5,w6,eδ,c1,c2,c3⟩=>by
    subst eδ;obtain⟨_,hk⟩:=Jq e;refine⟨NE W P1 (some (nD p.1)) (some (nD p.2)) (some (nD k)) w6,rfl,?_⟩;obtain⟨P2,z6,d1,d2,d3,d4⟩:=Zhi h c1 c2 hp.1 hp.2.1 hk w6;refine⟨_,d4,P2,some (nD k),z6,rfl,d1,d2,λx => ?_⟩;rw [d3,c3];constructor
    · rintro((z|⟨j,hj,z⟩)|z)
      · exact .inl z
      · exact .inr ⟨j,List.mem_append_left _ hj,z⟩
      · exact .inr ⟨k,List.mem_append_right _ (List.mem_singleton.mpr rfl),z⟩
    · rintro(z|⟨j,hj,z⟩)
      · exact .inl (.inl z)
      · rcases List.mem_append.mp hj with y|y
        · exact .inl (.inr ⟨j,y,z⟩)
        · exact .inr (by rw [List.mem_singleton.mp y]at z;exact z)
 refine⟨P',w5,w6,c1,c2,λx => ?_,YF hi hf⟩;rw [c3,nb_mem];constructor
 · rintro(z|⟨k,_,g1,g2,g3⟩)
   · exact .inl z
   · exact .inr ⟨⟨k,g1,g2⟩,g3⟩
 · rintro(z|⟨⟨k,g1,g2⟩,g3⟩)
   · exact .inl z
   · refine .inr ⟨k,List.mem_range.mpr ?_,g1,g2,g3⟩
     have:=(List.getElem?_eq_some_iff.mp g1).1;rw [er,o.ln]at this;exact this
theorem Zhj(W:Wy):fl2 (WT W)=true:=by
 show(W.map ZL).all fl1=true;rw [List.all_map,List.all_eq_true];exact λr _=>Jj r
theorem ZjS(P:List Pr):(ky P).map kD=P.map pD:=by
 unfold ky;rw [List.map_map];exact List.map_congr_left λp _=>rfl
theorem Zhk{m n:Nat}{W:Wy}(h:Ok m n W){P:List Pr}(hin:∀p∈P,In m p):∃P',P'.Nodup/\(∀p∈P',In m p)/\(∀x,x∈P' ↔ ∃p∈P,x∈nb W p)/\Je [WT W,tD P]=some (tD P'):=by
 obtain⟨δ',hf,P',v3,v4,v5,v6,rfl,c1,c2,c3⟩:=VY (γ:=Vc 2 (Xb 3 (Xb 4 gsNil))) (φ:=nxB) pD (λdn δ=>∃P' v3 v4 v5 v6,δ=NE W P' v3 v4 v5 v6/\P'.Nodup/\(∀p∈P',In m p)/\∀x,x∈P' ↔ ∃p∈dn,x∈nb W p) P (NE W [] none none none none)
  ⟨[],none,none,none,none,rfl,List.nodup_nil,λp hp=>(by cases hp),λx=>⟨λz=>(by cases z),λ⟨p,hp,_⟩=>by cases hp⟩⟩ λdn p tl δ e ⟨P1,v3,v4,v5,v6,eδ,c1,c2,c3⟩=>by
    subst eδ;have hp:In m p:=hin p (by rw [e];exact List.mem_append_right _ List.mem_cons_self);refine⟨NE W P1 (some (nD p.1)) (some (nD p.2)) v5 v6,rfl,?_⟩;obtain⟨P2,w5,w6,d1,d2,d3,d4⟩:=ZiF h c1 c2 hp v5 v6;refine⟨_,d4,P2,_,_,w5,w6,rfl,d1,d2,λx => ?_⟩;rw [d3,c3];constructor
    · rintro(⟨q,hq,z⟩|z)
      · exact⟨q,List.mem_append_left _ hq,z⟩
      · exact⟨p,List.mem_append_right _ (List.mem_singleton.mpr rfl),z⟩
    · rintro⟨q,hq,z⟩
      rcases List.mem_append.mp hq with y|y
      · exact .inl ⟨q,y,z⟩
      · exact .inr (by rw [List.mem_singleton.mp y]at z;exact z)
 refine⟨P',c1,c2,c3,XA (δ:=[some (WT W),some (tD P),none,none,none,none,none]) rfl ?_⟩;rw [Zhh,Zt (ZP rfl)]
 have ht:Us [2] 1 2 (Xb 3 (Xb 4 gsNil)) nxB [some (WT W),some (tD P),some (.dtt [] []),none,none,none,none]=some (.nx (NE W P' v3 v4 v5 v6)):=by
  unfold Us;rw [show Za 1 [some (WT W),some (tD P),some (.dtt [] []),none,none,none,none]=some (.dtt (ky P) (P.map tr))from rfl];dsimp only
  have hc:clr [2] ([some (WT W),some (tD P),some (D.dtt [] []),none,none,none,none].set 1 none)=true:=by
   show(fl2 (WT W)&&true)=true;rw [Zhj];rfl
  rw [if_pos hc,ZjS]
  show(match ZR (Vc 2 (Xb 3 (Xb 4 gsNil))) nxB (P.map pD) (NE W [] none none none none)with
   |some (.nx δ')=>some (Out.nx δ')
   |_=>none)=_
  rw [hf]
 exact(Zt ht).trans (Y3 rfl)
end K17
namespace K17
open DL L2
abbrev UE(W:Wy)(P:List Pr)(v2 v3 v4 v5:Option D):DL.Env:=[some (WT W),some (tD P),v2,v3,v4,v5]
noncomputable def du2:DL.Env->Option Out:=(sIf (xB (eOp neD (Za 2) (Za 3))) (Xe 1 (YM (Zb (Za 2) (Zb (Za 3) eNil))) (eC (.bl true))) sNext)
noncomputable def du1:DL.Env->Option Out:=(ZJ (ZB (Zb (eCB lenD (Zb (Za 0) eNil)) eNil)) (Zp 3) du2)
noncomputable def duB:DL.Env->Option Out:=(Ze (sIf (xB (eOp eqD (eCB lenTD (Zb (Za 1) eNil)) (eC (.int 0)))) (ZD (Za 5)) sNext) (Zi 1 (ZE 2 Je [] (Zb (Za 0) (Zb (Za 1) eNil)))))
theorem ZiG:f_QL=Ze (Zi 1 (eC (.dtt [] []))) (Ze (ZJ (ZB (Zb (eCB lenD (Zb (Za 0) eNil)) eNil)) (Zp 2) du1) (Ze (Zi 4 (eCB lenTD (Zb (Za 1) eNil))) (Ze (ZJ (ZB (Zb (eOp addX (Za 4) (eC (.int 1))) eNil)) (Zp 5) duB) (ZD (eC .non))))):=rfl
theorem ZhJ{m n:Nat}{W:Wy}(h:Ok m n W)(P:List Pr)(v2 v3 v4 v5:Option D):ZB (Zb (eCB lenD (Zb (Za 0) eNil)) eNil) (UE W P v2 v3 v4 v5)=some ((List.range m).map nD):=by
 have hm:=h.m6;refine(XV (j:=(m:Int)) (Zo ((YG (Zo (x:=WT W) rfl nil_of)).trans ?_) nil_of) (by omega) (by omega)).trans ?_
 · rw [Zbw,List.length_map,h.ln]
 · rw [<-Jm];rfl
theorem ZiH{m:Nat}(hm:m<=6)(W:Wy){P:List Pr}(hnd:P.Nodup)(hin:∀p∈P,In m p){a b:Nat}(ha:a<m)(hb:b<m):∃P',P'.Nodup/\(∀p∈P',In m p)/\(∀x,x∈P' ↔ x∈P\/(x=(a,b)/\a≠b)) /\
 du2 (UE W P (some (nD a)) (some (nD b)) none none)=some (.nx (UE W P' (some (nD a)) (some (nD b)) none none)):=by
 have t:xB (eOp neD (Za 2) (Za 3)) (UE W P (some (nD a)) (some (nD b)) none none)=some (!decide ((a:Int)=(b:Int))):=Yx ((Zs (x:=.int (a:Int)) (y:=.int (b:Int)) rfl rfl).trans (UX _ _))
 by_cases e:a=b
 · refine⟨P,hnd,hin,λx=>⟨.inl,λz=>z.elim id λy=>absurd e y.2⟩,Xg (by rw [t,e];simp)⟩
 · refine⟨Y5 P (a,b),Zbz hnd,λq hq => ?_,λx => ?_,(XU (by rw [t,decide_eq_false (by omega)];rfl)).trans ?_⟩
   · rcases addP_mem.mp hq with z|z
     · exact hin q z
     · rw [z];exact⟨ha,hb,e⟩
   · rw [addP_mem]
     exact⟨λz=>z.elim .inl λy => .inr ⟨y,e⟩,λz=>z.elim .inl λy => .inr y.1⟩
   · have hl:=Ux hm hnd hin
     exact ZaQ (i:=1) (ε:=eC (.bl true)) (δ:=UE W P (some (nD a)) (some (nD b)) none none) tr (x:=(a,b)) rfl (ZcY (Zo (x:=nD a) rfl (Zo (x:=nD b) rfl nil_of)) (by show 2<=1000;decide)) rfl (by omega)
theorem ZiI{m n:Nat}{W:Wy}(h:Ok m n W){P:List Pr}(hnd:P.Nodup)(hin:∀p∈P,In m p){a:Nat}(ha:a<m)(v3:Option D):∃P' w3,P'.Nodup/\(∀p∈P',In m p)/\(∀x,x∈P' ↔ x∈P\/(x.1=a/\In m x)) /\
 du1 (UE W P (some (nD a)) v3 none none)=some (.nx (UE W P' (some (nD a)) w3 none none)):=by
 obtain⟨δ',hf,P',w3,rfl,c1,c2,c3⟩:=VY (γ:=Zp 3) (φ:=du2) nD (λdn δ=>∃P' w3,δ=UE W P' (some (nD a)) w3 none none/\P'.Nodup/\(∀p∈P',In m p)/\∀x,x∈P' ↔ x∈P\/(x.1=a/\x.2∈dn/\x.1≠x.2)) (List.range m) (UE W P (some (nD a)) v3 none none)
  ⟨P,v3,rfl,hnd,hin,λx=>⟨.inl,λz=>z.elim id λ⟨_,y,_⟩=>by cases y⟩⟩ λdn b tl δ e ⟨P1,w3,eδ,c1,c2,c3⟩=>by
    subst eδ;obtain⟨_,hb⟩:=Jq e;refine⟨UE W P1 (some (nD a)) (some (nD b)) none none,rfl,?_⟩;obtain⟨P2,d1,d2,d3,d4⟩:=ZiH h.m6 W c1 c2 ha hb;refine⟨_,d4,P2,some (nD b),rfl,d1,d2,λx => ?_⟩;rw [d3,c3];constructor
    · rintro((z|⟨y1,y2,y3⟩)|⟨rfl,z⟩)
      · exact .inl z
      · exact .inr ⟨y1,List.mem_append_left _ y2,y3⟩
      · exact .inr ⟨rfl,List.mem_append_right _ (List.mem_singleton.mpr rfl),z⟩
    · rintro(z|⟨y1,y2,y3⟩)
      · exact .inl (.inl z)
      · rcases List.mem_append.mp y2 with y|y
        · exact .inl (.inr ⟨y1,y,y3⟩)
        · rw [List.mem_singleton]at y
          obtain⟨x1,x2⟩:=x;dsimp only at y1 y y3;subst y1 y;exact .inr ⟨rfl,y3⟩
 refine⟨P',w3,c1,c2,λx => ?_,YF (ZhJ h P _ _ _ _) hf⟩;rw [c3];constructor
 · rintro(z|⟨y1,y2,y3⟩)
   · exact .inl z
   · exact .inr ⟨y1,by rw [y1];exact ha,List.mem_range.mp y2,y3⟩
 · rintro(z|⟨y1,y2⟩)
   · exact .inl z
   · exact .inr ⟨y1,List.mem_range.mpr y2.2.1,y2.2.2⟩
theorem ZiJ{m n:Nat}{W:Wy}(h:Ok m n W):∃P w2 w3,Alls m P/\ZJ (ZB (Zb (eCB lenD (Zb (Za 0) eNil)) eNil)) (Zp 2) du1 (UE W [] none none none none)=some (.nx (UE W P w2 w3 none none)):=by
 obtain⟨δ',hf,P',w2,w3,rfl,c1,c2,c3⟩:=VY (γ:=Zp 2) (φ:=du1) nD (λdn δ=>∃P' w2 w3,δ=UE W P' w2 w3 none none/\P'.Nodup/\(∀p∈P',In m p)/\∀x,x∈P' ↔ x.1∈dn/\In m x) (List.range m) (UE W [] none none none none)
  ⟨[],none,none,rfl,List.nodup_nil,λp hp=>(by cases hp),λx=>⟨λz=>(by cases z),λ⟨z,_⟩=>by cases z⟩⟩ λdn a tl δ e ⟨P1,w2,w3,eδ,c1,c2,c3⟩=>by
    subst eδ;obtain⟨_,ha⟩:=Jq e;refine⟨UE W P1 (some (nD a)) w3 none none,rfl,?_⟩;obtain⟨P2,z3,d1,d2,d3,d4⟩:=ZiI h c1 c2 ha w3;refine⟨_,d4,P2,some (nD a),z3,rfl,d1,d2,λx => ?_⟩;rw [d3,c3,List.mem_append,List.mem_singleton];constructor
    · rintro(⟨z,y⟩|⟨z,y⟩)
      · exact⟨.inl z,y⟩
      · exact⟨.inr z,y⟩
    · rintro⟨z|z,y⟩
      · exact .inl ⟨z,y⟩
      · exact .inr ⟨z,y⟩
 refine⟨P',w2,w3,⟨c1,λp => ?_⟩,YF (ZhJ h [] _ _ _ _) hf⟩;rw [c3];exact⟨λz=>z.2,λz=>⟨List.mem_range.mpr z.1,z⟩⟩
theorem ZdH(P:List Pr)(W:Wy)(v2 v3 v4 v5:Option D):eCB lenTD (Zb (Za 1) eNil) (UE W P v2 v3 v4 v5)=some (.int (P.length:Int)):=by
 refine(YG (Zo (x:=tD P) rfl nil_of)).trans ?_;show some (D.int ((ky P).length:Int))=_;rw [List.length_map]
theorem ZdI{m n:Nat}{W:Wy}(h:Ok m n W)(P0:List Pr)(v2 v3 v4:Option D):∀(k j:Nat)(P:List Pr)(v5:Option D),(∀p∈P,In m p)->(∀i,Z4 (nb W) P0 (j+i) ↔ Z4 (nb W) P i) ->
 (∃r,j<=r/\r<j+k/\Z4 (nb W) P0 r/\(∀i,j<=i->i<r->¬Z4 (nb W) P0 i)/\ZR (Zp 5) duB ((List.range' j k).map nD) (UE W P v2 v3 v4 v5)=some (.rt (nD r))) \/
 ((∀i,j<=i->i<j+k->¬Z4 (nb W) P0 i)/\∃δ',ZR (Zp 5) duB ((List.range' j k).map nD) (UE W P v2 v3 v4 v5)=some (.nx δ'))
 |0,j,P,v5,hin,hF => .inr ⟨λi h1 h2=>by omega,_,rfl⟩
 |k+1,j,P,v5,hin,hF=>by
  rw [List.range'_succ,List.map_cons];unfold ZR;rw [show Zp 5 (nD j) (UE W P v2 v3 v4 v5)=some (UE W P v2 v3 v4 (some (nD j)))from rfl];dsimp only;have t:xB (eOp eqD (eCB lenTD (Zb (Za 1) eNil)) (eC (.int 0))) (UE W P v2 v3 v4 (some (nD j)))=some (decide ((P.length:Int)=0)):=Yx ((Zs (ZdH P W _ _ _ _) (y:=.int 0) rfl).trans (Vj _ _))
  by_cases e:P=[]
  · subst e
    have hb:duB (UE W [] v2 v3 v4 (some (nD j)))=some (.rt (nD j)):=ZcX ((XU (by rw [t];rfl)).trans (Y3 rfl));rw [hb];exact .inl ⟨j,Nat.le_refl _,by omega,(hF 0).mpr (λp hp=>by cases hp),λi h1 h2=>by omega,rfl⟩
  · obtain⟨P',c1,c2,c3,c4⟩:=Zhk h hin
    have hpos:0<P.length:=List.length_pos_iff.mpr e;have hb:duB (UE W P v2 v3 v4 (some (nD j)))=some (.nx (UE W P' v2 v3 v4 (some (nD j)))):=(Zt ((Xg (by rw [t,decide_eq_false (by omega)])).trans rfl)).trans (ZP ((YR (ds:=[WT W,tD P]) rfl rfl).trans c4));rw [hb];dsimp only
    have hn0:¬Z4 (nb W) P0 j:=λz=>by
     have:=(hF 0).mp z;cases P with
     |nil=>exact e rfl
     |cons p P=>exact absurd (this p List.mem_cons_self) (by show ¬false=true;decide)
    have hF':∀i,Z4 (nb W) P0 (j+1+i) ↔ Z4 (nb W) P' i:=λi=>by
     rw [show j+1+i=j+(i+1) by omega,hF (i+1)];constructor
     · intro z x hx
       obtain⟨p,hp,hxp⟩:=(c3 x).mp hx;have:(nb W p).all (Pl.Sb (nb W) i)=true:=z p hp;exact List.all_eq_true.mp this x hxp
     · intro z p hp
       show(nb W p).all (Pl.Sb (nb W) i)=true;exact List.all_eq_true.mpr λx hx=>z x ((c3 x).mpr ⟨p,hp,hx⟩)
    rcases ZdI h P0 v2 v3 v4 k (j+1) P' (some (nD j)) c2 hF' with⟨r,r1,r2,r3,r4,r5⟩|⟨r1,r2⟩
    · refine .inl ⟨r,by omega,by omega,r3,λi h1 h2 => ?_,r5⟩
      by_cases ij:i=j
      · rw [ij];exact hn0
      · exact r4 i (by omega) h2
    · refine .inr ⟨λi h1 h2 => ?_,r2⟩
      by_cases ij:i=j
      · rw [ij];exact hn0
      · exact r1 i (by omega) (by omega)
theorem ZiK{m n:Nat}{W:Wy}(h:Ok m n W){Q:List Pr}(c:Clo W m Q):Jf [WT W]=some (Lg.resD (Pl.kah (nb W) Q (Q.length+1) 0)):=by
 obtain⟨P,w2,w3,a,hb⟩:=ZiJ h;refine XA (δ:=[some (WT W),none,none,none,none,none]) rfl ?_;rw [ZiG,Zt (ZP rfl)];refine(Zt hb).trans ?_;rw [Zt (ZP (ZdH P W w2 w3 none none))];have hPl:=Ux h.m6 a.nd λp hp=>(a.mem p).mp hp
 have hclo:∀k∈P,∀o∈nb W k,o∈P:=λk hk o ho=>(a.mem o).mpr (ZhI h ((a.mem k).mp hk) ho)
 have hi:ZB (Zb (eOp addX (Za 4) (eC (.int 1))) eNil) (UE W P w2 w3 (some (.int (P.length:Int))) none)=some ((List.range' 0 (P.length+1)).map nD):=by
  refine(XV (j:=(P.length:Int)+1) (Zo ((Zs (x:=.int (P.length:Int)) (y:=.int 1) rfl rfl).trans (add_int _ _)) nil_of) (by omega) (by omega)).trans ?_;rw [<-List.range_eq_range',<-Jm,show((P.length:Int)+1).toNat=P.length+1 by omega]
 have hk:=ZfQ c.clo (Q.length+1) 0 (by omega) λi hi=>by omega
 rcases ZdI h P w2 w3 (some (.int (P.length:Int))) (P.length+1) 0 P none (λp hp=>(a.mem p).mp hp) (λi=>by rw [Nat.zero_add])with⟨r,r1,r2,r3,r4,r5⟩|⟨r1,δ',r2⟩
 · refine(ZcX (YF hi r5)).trans ?_
   rcases hk with⟨s,s1,s2,s3⟩|⟨s1,s2⟩
   · have hrs : r = s := by
      rcases Nat.lt_trichotomy r s with z|z|z
      · exact absurd ((Qa a c r).mpr r3) (s2 r z)
      · exact z
      · exact absurd ((Qa a c s).mp s1) (r4 s (Nat.zero_le _) z)
     rw [s3,hrs];rfl
   · exact absurd ((Qa a c r).mpr r3) (s1 r)
 · refine(Zt (YF hi r2)).trans ((Y3 (d:=.non) rfl).trans ?_)
   rcases hk with⟨s,s1,s2,s3⟩|⟨s1,s2⟩
   · have hs:=(Qa a c s).mp s1
     have:=Zfg hclo hs λi hi z=>s2 i hi ((Qa a c i).mpr z)
     exact absurd hs (r1 s (Nat.zero_le _) (by omega))
   · rw [s2]
     rfl
end K17
namespace K17
open DL L2
abbrev iN(a:Nat):D := .int (a:Int)
abbrev AD(o:List Nat):D := .lst (o.map iN)
def ixo(a:Nat):List Nat->Nat
 | []=>0
 |b::o=>if b=a then 0 else ixo a o+1
theorem ZfV(a:Nat):∀o:List Nat,a∈o->o[ixo a o]? = some a
 | [],h=>nomatch h
 |b::o,h=>by
  unfold ixo
  by_cases hb:b=a
  · rw [if_pos hb,hb];rfl
  · rw [if_neg hb,List.getElem?_cons_succ]
    exact ZfV a o ((List.mem_cons.mp h).resolve_left λe=>hb e.symm)
def VZ(o:List Nat):Option Nat->Option Nat
 |none=>none
 |some a=>some (ixo a o)
theorem ZdJ(a b:Nat):eqV (val (iN b)) (val (iN a))=decide (b=a):=by
 show((b:Int) == (a:Int))=_
 by_cases h:b=a
 · subst h;simp
 · rw [decide_eq_false h]
   exact beq_false_of_ne λz=>h (by omega)
theorem Zap:∀o:List Nat,(o.map iN).all Zj=true
 | []=>rfl
 |_::o=>by rw [List.map_cons,List.all_cons,Zap o];rfl
theorem Zcm(a:Nat):∀o:List Nat,((o.map iN).map val).any (λy=>eqV y (val (iN a)))=decide (a∈o)
 | []=>rfl
 |b::o=>by
  rw [List.map_cons,List.map_cons,List.any_cons,Zcm a o,ZdJ]
  by_cases h:b=a
  · subst h;simp
  · rw [decide_eq_false h,Bool.false_or]
    exact decide_eq_decide.mpr ⟨List.mem_cons_of_mem _,λz=>(List.mem_cons.mp z).resolve_left λe=>h e.symm⟩
theorem ZcO(a:Nat)(o:List Nat):inD true (iN a) (AD o)=some (.bl (!decide (a∈o))):=by
 show(if Zj (iN a)&&(o.map iN).all Zj then some (D.bl (!(((o.map iN).map val).any λy=>eqV y (val (iN a)))))else none)=_;rw [Zap,Zcm];rfl
theorem Zbg(a:Nat):∀o:List Nat,a∈o->((o.map iN).map val).findIdx? (λz=>eqV z (val (iN a)))=some (ixo a o)
 | [],h=>nomatch h
 |b::o,h=>by
  rw [List.map_cons,List.map_cons,List.findIdx?_cons,ZdJ];unfold ixo
  by_cases hb:b=a
  · rw [decide_eq_true hb,if_pos rfl,if_pos hb]
  · rw [decide_eq_false hb,if_neg Bool.false_ne_true,if_neg hb,Zbg a o ((List.mem_cons.mp h).resolve_left λe=>hb e.symm)]
    rfl
theorem ZcP{i j:Nat}{δ:DL.Env}{a:Nat}{o:List Nat}(h1:Za i δ=some (AD o))(h2:Za j δ=some (iN a))(h:a∈o):eLM lindexD (Za i) (Za j) δ=some (iN (ixo a o)):=by
 unfold eLM;rw [h1];dsimp only;rw [h2];dsimp only;rw [Zap,if_pos (by rfl)];unfold lindexD;rw [Zbg a o h]
theorem nodup_le:∀(m:Nat)(l:List Nat),l.Nodup->(∀a∈l,a<m)->l.length<=m
 |0,l,_,h=>by
  cases l with
  |nil=>exact Nat.le_refl _
  |cons a l=>exact absurd (h a List.mem_cons_self) (by omega)
 |m+1,l,hn,h=>by
  by_cases hm:m∈l
  · have h1 := nodup_le m (l.erase m) (hn.erase m) fun a ha => by
     have h2:=h a (List.mem_of_mem_erase ha);have h3:a≠m:=λz=>by rw [z]at ha;exact(hn.not_mem_erase) ha
     omega
    rw [List.length_erase_of_mem hm]at h1;omega
  · have := nodup_le m l hn fun a ha => by
     have h2:=h a ha;have h3:a≠m:=λz=>hm (z▸ha)
     omega
    omega
abbrev BE(ns:List Int)(m:Nat)(M:List Nat)(v3 v4 v5 v6 v7:Option D):DL.Env:=[some (.lst (ns.map D.int)),some (.int (m:Int)),some (.str M),v3,v4,v5,v6,v7]
noncomputable def bm1:DL.Env->Option Out:=(Zi 7 (ZE 2 Yu [] (Zb (Za 0) (Zb (eOp addX (eOp addX (eC (.int 3)) (eOp mulX (Za 4) (eCB lenD (Zb (Za 2) eNil)))) (Za 6)) eNil))))
noncomputable def bmE:DL.Env->Option D:=(eOp ixD (ZM (Zb (eOp modD (eOp addX (Za 6) (Za 4)) (Za 1)) (Zb (eOp modD (Za 6) (Za 1)) (Zb (eOp modD (Za 6) (Za 1)) (Zb (eC .non) eNil))))) (eOp modD (Za 7) (eC (.int 4))))
noncomputable def bmF:DL.Env->Option Out:=(ZJ (ZB (Zb (eCB lenD (Zb (Za 2) eNil)) eNil)) (Zp 6) (Ze bm1 (Yj 5 bmE)))
noncomputable def bmI:DL.Env->Option Out:=(sIf (xB (eOp eqD (eLM lcountD (Za 5) (eC .non)) (eCB lenD (Zb (Za 2) eNil)))) (UT 5 (eC (.int 0)) (eC (.int 0))) sNext)
theorem ZjT:f_QD=Ze (Zi 3 (ZM eNil)) (Ze (ZJ (ZB (Zb (Za 1) eNil)) (Zp 4) (Ze (Zi 5 (ZM eNil)) (Ze bmF (Ze bmI (Yj 3 (Za 5)))))) (ZD (Za 3))):=rfl
theorem ZiL(ns:List Int)(m:Nat){M:List Nat}(hM:Mk M)(a k:Nat)(v3 v5 v7:Option D):∃c,bm1 (BE ns m M v3 (some (.int (a:Int))) v5 (some (.int (k:Int))) v7)=some (.nx (BE ns m M v3 (some (.int (a:Int))) v5 (some (.int (k:Int))) (some (.int c)))):=by
 have hhi:=hM.hi;refine⟨_,ZP ((YR (n:=2) (ds:=[.lst (ns.map D.int),.int ((3+a*M.length+k:Nat):Int)]) (Zo rfl (Zo ?_ nil_of)) rfl).trans (U9 ns _))⟩;refine(Zs (x:=.int ((3+a*M.length:Nat):Int)) (y:=.int (k:Int)) ((Zs (x:=.int 3) (y:=.int ((a*M.length:Nat):Int)) rfl (Uw a M.length (by omega) rfl (YT hM rfl))).trans ?_) rfl).trans ?_
 · rw [add_int]
   exact congrArg (λz=>some (D.int z)) (by omega)
 · rw [add_int]
   exact congrArg (λz=>some (D.int z)) (by omega)
theorem ZiM(ns:List Int)(m:Nat)(hm:0<m)(M:List Nat)(a k:Nat)(c:Int)(v3 v5:Option D):∃x:Option Nat,(∀t,x=some t->t<m)/\bmE (BE ns m M v3 (some (.int (a:Int))) v5 (some (.int (k:Int))) (some (.int c)))=some (oD x):=by
 obtain⟨x1,h1,l1⟩:=ZaM ((k:Int)+(a:Int)) hm;obtain⟨x2,h2,l2⟩:=ZaM (k:Int) hm;obtain⟨t,ht,l4⟩:=ZaM c (m:=4) (by decide);have e1:eOp modD (eOp addX (Za 6) (Za 4)) (Za 1) (BE ns m M v3 (some (.int (a:Int))) v5 (some (.int (k:Int))) (some (.int c)))=some (.int (x1:Int)):=(Zs (x:=.int ((k:Int)+(a:Int))) (y:=.int (m:Int)) ((Zs (x:=.int (k:Int)) (y:=.int (a:Int)) rfl rfl).trans (add_int _ _)) rfl).trans h1
 have e2:eOp modD (Za 6) (Za 1) (BE ns m M v3 (some (.int (a:Int))) v5 (some (.int (k:Int))) (some (.int c)))=some (.int (x2:Int)):=(Zs (x:=.int (k:Int)) (y:=.int (m:Int)) rfl rfl).trans h2;have e3:eOp modD (Za 7) (eC (.int 4)) (BE ns m M v3 (some (.int (a:Int))) v5 (some (.int (k:Int))) (some (.int c)))=some (.int (t:Int)):=(Zs (x:=.int c) (y:=.int 4) rfl rfl).trans ht
 have e4:=Ut (Zo e1 (Zo e2 (Zo e2 (Zo (a:=eC .non) (x:=.non) rfl nil_of)))) (by show 4<=1000;decide);have e5:bmE (BE ns m M v3 (some (.int (a:Int))) v5 (some (.int (k:Int))) (some (.int c)))=ixD (.lst [.int (x1:Int),.int (x2:Int),.int (x2:Int),.non]) (.int (t:Int)):=Zs e4 e3;rcases(show t=0\/t=1\/t=2\/t=3 by omega)with rfl|rfl|rfl|rfl
 · exact⟨some x1,λt z=>by cases z;exact l1,e5.trans (VR rfl)⟩
 · exact⟨some x2,λt z=>by cases z;exact l2,e5.trans (VR rfl)⟩
 · exact⟨some x2,λt z=>by cases z;exact l2,e5.trans (VR rfl)⟩
 · exact⟨none,(λt z=>by cases z),e5.trans (VR rfl)⟩
theorem ZiN(ns:List Int)(m:Nat){M:List Nat}(hM:Mk M)(hm:0<m)(a:Nat)(v3 v6 v7:Option D):∃r w6 w7,Ok1 m M.length r/\bmF (BE ns m M v3 (some (.int (a:Int))) (some (.lst [])) v6 v7)=some (.nx (BE ns m M v3 (some (.int (a:Int))) (some (Zv r)) w6 w7)):=by
 have hhi:=hM.hi
 obtain⟨δ',h1,r,w6,w7,e,hl,hp⟩:=VQ (γ:=Zp 6) (φ:=Ze bm1 (Yj 5 bmE)) (λk δ=>∃(r:List (Option Nat)) (v6 v7:Option D),δ=BE ns m M v3 (some (.int (a:Int))) (some (Zv r)) v6 v7/\r.length=k/\∀t,some t∈r->t<m) (ZO 0 1 M.length) 0 (BE ns m M v3 (some (.int (a:Int))) (some (.lst [])) v6 v7) ⟨[],_,_,rfl,rfl,λt z=>by cases z⟩ (by
  intro j x δ hx ⟨r,v6,v7,e,hl,hp⟩;subst e;obtain⟨hj,rfl⟩:=U1 hx;rw [Nat.zero_add]at hl ⊢;obtain⟨c,t1⟩:=ZiL ns m hM a j v3 (some (Zv r)) v7;obtain⟨y,hy,t2⟩:=ZiM ns m hm M a j c v3 (some (Zv r));refine⟨_,rfl,BE ns m M v3 (some (.int (a:Int))) (some (Zv (r++[y]))) (some (.int (j:Int))) (some (.int c)),(Zt t1).trans ((U0 (xs:=r.map oD) rfl t2 (by rw [List.length_map];omega)).trans ?_),_,_,_,rfl,by rw [List.length_append,hl];rfl,λt ht => ?_⟩
  · unfold Zv
    rw [List.map_append];rfl
  · rcases List.mem_append.mp ht with z|z
    · exact hp t z
    · exact hy t (List.mem_singleton.mp z).symm)
 subst e;rw [Q1,Nat.zero_add]at hl;exact⟨r,w6,w7,⟨hl,hp⟩,YF ((XV (j:=(M.length:Int)) (Zo (YT hM rfl) nil_of) (by omega) (by omega)).trans (by rw [Int.toNat_natCast])) h1⟩
theorem ZiO(ns:List Int)(m:Nat){M:List Nat}(hM:Mk M)(hm:0<m){r:List (Option Nat)}(hr:Ok1 m M.length r)(v3 v4 v6 v7:Option D):∃r',Ok1 m M.length r'/\bmI (BE ns m M v3 v4 (some (Zv r)) v6 v7)=some (.nx (BE ns m M v3 v4 (some (Zv r')) v6 v7)):=by
 have hlo:=hM.lo
 have hcn:∃k:Nat,eLM lcountD (Za 5) (eC .non) (BE ns m M v3 v4 (some (Zv r)) v6 v7)=some (.int (k:Int)):=by
  unfold eLM;rw [show Za 5 (BE ns m M v3 v4 (some (Zv r)) v6 v7)=some (.lst (r.map oD))from rfl];dsimp only;rw [show eC D.non (BE ns m M v3 v4 (some (Zv r)) v6 v7)=some .non from rfl];dsimp only;rw [if_pos (by rw [Jj];rfl)];exact⟨_,rfl⟩
 obtain⟨k,hk⟩:=hcn;have e0:xB (eOp eqD (eLM lcountD (Za 5) (eC .non)) (eCB lenD (Zb (Za 2) eNil))) (BE ns m M v3 v4 (some (Zv r)) v6 v7)=some (decide ((k:Int)=(M.length:Int))):=Yx ((Zs hk (YT hM rfl)).trans (Vj _ _))
 by_cases hz:(k:Int)=(M.length:Int)
 · refine⟨r.set 0 (some 0),hr.set hm,(XU (by rw [e0,decide_eq_true hz])).trans ?_⟩
   unfold UT;rw [show eC (.int 0) (BE ns m M v3 v4 (some (Zv r)) v6 v7)=some (.int 0)from rfl];dsimp only;rw [show Za 5 (BE ns m M v3 v4 (some (Zv r)) v6 v7)=some (.lst (r.map oD))from rfl];dsimp only;rw [show ixN (r.map oD).length 0=some 0 from Zbv (a:=0) (by rw [List.length_map,hr.ln];omega)];dsimp only;unfold Zv;rw [List.map_set];rfl
 · exact⟨r,hr,(Xg (by rw [e0,decide_eq_false hz])).trans rfl⟩
theorem ZcQ(ns:List Int)(m:Nat){M:List Nat}(hM:Mk M)(hm:0<m)(hm6:m<=6):∃W,Ok m M.length W/\Jc [.lst (ns.map D.int),.int (m:Int),.str M]=some (ZI W):=by
 obtain⟨δ1,l1,W1,v4,v5,v6,v7,e1,hl1,hw1⟩:=VQ (γ:=Zp 4) (φ:=Ze (Zi 5 (ZM eNil)) (Ze bmF (Ze bmI (Yj 3 (Za 5))))) (λk δ=>∃(W:Wy) (v4 v5 v6 v7:Option D),δ=BE ns m M (some (.lst (W.map Zv))) v4 v5 v6 v7/\W.length=k/\∀r∈W,Ok1 m M.length r) (ZO 0 1 m) 0 (BE ns m M (some (.lst (([]:Wy).map Zv))) none none none none) ⟨[],_,_,_,_,rfl,rfl,λr z=>by cases z⟩ (by
  intro j x δ hx ⟨W,v4,v5,v6,v7,e,hl,hw⟩;subst e;obtain⟨hj,rfl⟩:=U1 hx;rw [Nat.zero_add]at hl ⊢;obtain⟨r,w6,w7,hr,t2⟩:=ZiN ns m hM hm j (some (.lst (W.map Zv))) v6 v7;obtain⟨r',hr',t3⟩:=ZiO ns m hM hm hr (some (.lst (W.map Zv))) (some (.int (j:Int))) w6 w7;have t1:Zi 5 (ZM eNil) (BE ns m M (some (.lst (W.map Zv))) (some (.int (j:Int))) v5 v6 v7)=some (.nx (BE ns m M (some (.lst (W.map Zv))) (some (.int (j:Int))) (some (.lst [])) v6 v7)):=ZP rfl
  refine⟨_,rfl,BE ns m M (some (.lst ((W++[r']).map Zv))) (some (.int (j:Int))) (some (Zv r')) w6 w7,(Zt t1).trans ((Zt t2).trans ((Zt t3).trans ((U0 (xs:=W.map Zv) (d:=Zv r') rfl rfl (by rw [List.length_map];omega)).trans ?_))),W++[r'],_,_,_,_,rfl,by rw [List.length_append,hl];rfl,λq hq => ?_⟩
  · rw [List.map_append]
    rfl
  · rcases List.mem_append.mp hq with z|z
    · exact hw q z
    · rw [List.mem_singleton.mp z];exact hr')
 subst e1;rw [Q1,Nat.zero_add]at hl1;refine⟨W1,⟨hm,hm6,hM.lo,hM.hi,hl1,hw1⟩,XA (δ:=BE ns m M none none none none none) rfl ?_⟩;rw [ZjT,Zt (ZP rfl)];exact(Zt (YF ((XV (j:=(m:Int)) rfl (by omega) (by omega)).trans (by rw [Int.toNat_natCast])) l1)).trans rfl
abbrev TE6(W:Wy)(o:List Nat)(k:Nat)(v3 v4 v5:Option D):DL.Env:=[some (ZI W),some (AD o),some (iN k),v3,v4,v5]
noncomputable def mtI:DL.Env->Option Out:=(sIf (Ym (xB (Xa (Za 3))) (xB (eOp (inD true) (Za 3) (Za 1)))) (Yj 1 (Za 3)) sNext)
noncomputable def mtT:DL.Env->Option Bool:=(xB (eOp (Y8 λi j=>decide (i<j)) (Za 2) (eCB lenD (Zb (Za 1) eNil))))
noncomputable def mtF:DL.Env->Option Out:=(ZJ (Z6 (eOp ixD (Za 0) (eOp ixD (Za 1) (Za 2)))) (Zp 3) mtI)
noncomputable def mtC:DL.Env->Option D:=(eIf (xB (Y9 (Za 0))) (eC .non) (eLM lindexD (Za 1) (Za 0)))
theorem ZiP:f_QK=Ze (Zi 1 (ZM (Zb (eC (.int 0)) eNil))) (Ze (Zi 2 (eC (.int 0))) (Ze (Yo mtT (Ze mtF (Zi 2 (eOp addX (Za 2) (eC (.int 1)))))) (Ze (Zi 4 (ZM eNil)) (Ze (ZJ (Z6 (Za 1)) (Zp 5) (Yj 4 (eCB Yi (Zb (Yp (Z6 (eOp ixD (Za 0) (Za 5))) (Zp 0) (λ_=>some true) mtC 1 [1]) eNil)))) (ZD (eCB Yi (Zb (Za 4) eNil))))))):=rfl
structure Fd(m:Nat)(o:List Nat):Prop where
 nd:o.Nodup
 lt:∀a∈o,a<m
theorem ZiQ(W:Wy){m:Nat}(hm:m<=6){o:List Nat}(h:Fd m o)(k:Nat)(x:Option Nat)(hx:∀t,x=some t->t<m)(v4 v5:Option D):∃e,Fd m (o++e)/\(∀t,x=some t->t∈o++e)/\mtI (TE6 W o k (some (oD x)) v4 v5)=some (.nx (TE6 W (o++e) k (some (oD x)) v4 v5)):=by
 cases x with
 |none=>exact⟨[],(by rw [List.append_nil];exact h),(λt z=>by cases z),(by rw [List.append_nil];exact(Xg (UZ rfl)).trans rfl)⟩
 |some t=>
  have tt:Ym (xB (Xa (Za 3))) (xB (eOp (inD true) (Za 3) (Za 1))) (TE6 W o k (some (oD (some t))) v4 v5)=some (!decide (t∈o)):=UY rfl (Yx ((Zs (x:=iN t) (y:=AD o) rfl rfl).trans (ZcO t o)))
  by_cases hq:t∈o
  · exact⟨[],(by rw [List.append_nil];exact h),(λs z=>by cases z;rw [List.append_nil];exact hq),(by rw [List.append_nil];exact(Xg (by rw [tt,decide_eq_true hq];rfl)).trans rfl)⟩
  · have hl:=nodup_le m o h.nd h.lt
    refine⟨[t],⟨?_,λa ha => ?_⟩,λs z => ?_,(XU (by rw [tt,decide_eq_false hq];rfl)).trans ((U0 (xs:=o.map iN) (d:=iN t) rfl rfl (by rw [List.length_map];omega)).trans ?_)⟩
    · rw [List.nodup_append]
      exact⟨h.nd,by simp,λa ha b hb z=>hq (by rw [List.mem_singleton]at hb;rw [<-hb,<-z];exact ha)⟩
    · rcases List.mem_append.mp ha with z|z
      · exact h.lt a z
      · rw [List.mem_singleton.mp z];exact hx t rfl
    · cases z
      exact List.mem_append_right _ (List.mem_singleton.mpr rfl)
    · show some (Out.nx [some (ZI W),some (.lst (o.map iN++[iN t])),some (iN k),some (oD (some t)),v4,v5])=some (Out.nx [some (ZI W),some (.lst ((o++[t]).map iN)),some (iN k),some (oD (some t)),v4,v5])
      rw [List.map_append];rfl
theorem ZiR{m n:Nat}{W:Wy}(h:Ok m n W){o:List Nat}(f:Fd m o){k:Nat}(hk:k<o.length)(v3 v4 v5:Option D):∃e w3,Fd m (o++e)/\(∀t,some t∈W.getD (o.getD k 0) []->t∈o++e)/\mtF (TE6 W o k v3 v4 v5)=some (.nx (TE6 W (o++e) k w3 v4 v5)):=by
 have hok:o[k]? = some (o.getD k 0):=by rw [List.getD_eq_getElem?_getD,List.getElem?_eq_getElem hk];rfl
 have ha:o.getD k 0<m:=f.lt _ (List.mem_of_getElem? hok);obtain⟨r,_,er,or⟩:=h.row ha;have i1:eOp ixD (Za 1) (Za 2) (TE6 W o k v3 v4 v5)=some (.int (o.getD k 0:Int)):=(Zs (x:=AD o) (y:=iN k) rfl rfl).trans (VR (by rw [List.getElem?_map,hok];rfl));have hi:Z6 (eOp ixD (Za 0) (eOp ixD (Za 1) (Za 2))) (TE6 W o k v3 v4 v5)=some ((W.getD (o.getD k 0) []).map oD):=ZaO (ZcZ h ha rfl i1)
 obtain⟨δ',hf,e,w3,rfl,f',c⟩:=VY (γ:=Zp 3) (φ:=mtI) oD (λdn δ=>∃e w3,δ=TE6 W (o++e) k w3 v4 v5/\Fd m (o++e)/\∀t,some t∈dn->t∈o++e) (W.getD (o.getD k 0) []) (TE6 W o k v3 v4 v5)
  ⟨[],v3,by rw [List.append_nil],by rw [List.append_nil];exact f,λt z=>by cases z⟩ λdn x tl δ ee ⟨e,w3,eδ,f1,c1⟩=>by
    subst eδ;have hx:∀t,x=some t->t<m:=λt z=>or.pl t (by rw [<-er,ee,<-z];exact List.mem_append_right _ List.mem_cons_self)
    obtain⟨e2,f2,c2,t2⟩:=ZiQ W h.m6 f1 k x hx v4 v5;refine⟨TE6 W (o++e) k (some (oD x)) v4 v5,rfl,_,t2,e++e2,some (oD x),by rw [List.append_assoc],by rw [<-List.append_assoc];exact f2,λt ht => ?_⟩;rw [<-List.append_assoc];rcases List.mem_append.mp ht with z|z
    · exact List.mem_append_left _ (c1 t z)
    · exact c2 t (List.mem_singleton.mp z).symm
 exact⟨e,w3,f',c,YF hi hf⟩
theorem ZfW(W:Wy)(o:List Nat)(k:Nat)(v3 v4 v5:Option D):mtT (TE6 W o k v3 v4 v5)=some (decide (k<o.length)):=by
 refine Yx ((Zs (x:=.int (k:Int)) (y:=.int (o.length:Int)) rfl ((YG (Zo (x:=AD o) rfl nil_of)).trans (by rw [ZdA,List.length_map]))).trans ?_);show some (D.bl (decide ((k:Int)<(o.length:Int))))=_
 congr 2
 exact decide_eq_decide.mpr (by omega)
def ZiZ(W:Wy)(o:List Nat):Wy:=o.map λa=>(W.getD a []).map (VZ o)
theorem ZiS{m n:Nat}{W:Wy}(h:Ok m n W):∃m' W',Ok m' n W'/\Jd [ZI W]=some (.tup (W'.map ZL)):=by
 have hm6:=h.m6
 obtain⟨δ',hw,o,k,v3,f,hc,h0,rfl⟩:=Zah (τ:=mtT) (φ:=Ze mtF (Zi 2 (eOp addX (Za 2) (eC (.int 1))))) (λδ=>∃o k v3,Fd m o/\(∀i,i<k->∀t,some t∈W.getD (o.getD i 0) []->t∈o)/\k<=o.length/\0∈o/\δ=TE6 W o k v3 none none) (λδ=>∃o k v3,Fd m o/\(∀a∈o,∀t,some t∈W.getD a []->t∈o)/\0∈o/\δ=TE6 W o k v3 none none)
  (λδ=>match δ with
    | [_,_,some (.int k),_,_,_]=>7-k.toNat
    |_=>0) (λδ ⟨o,k,v3,f,hc,hk,h0,e⟩=>by
    subst e
    by_cases hlt:k<o.length
    · obtain⟨e,w3,f2,c2,t⟩:=ZiR h f hlt v3 none none
      have hol:=nodup_le m o f.nd f.lt;refine .inr ⟨by rw [ZfW,decide_eq_true hlt],TE6 W (o++e) (k+1) w3 none none,(Zt t).trans ((ZP ((Zs (x:=.int (k:Int)) (y:=.int 1) rfl rfl).trans (add_int _ _))).trans ?_),⟨o++e,k+1,w3,f2,λi hi s hs => ?_,by rw [List.length_append];omega,List.mem_append_left _ h0,rfl⟩,?_⟩
      · show some (Out.nx [some (ZI W),some (AD (o++e)),some (.int ((k:Int)+1)),w3,none,none])=_
        rw [show((k:Int)+1)=((k+1:Nat):Int) by omega]
      · have hio:i<o.length:=by omega
        have hg:(o++e).getD i 0=o.getD i 0:=by
         rw [List.getD_eq_getElem?_getD,List.getD_eq_getElem?_getD,List.getElem?_append_left hio]
        rw [hg]at hs
        by_cases ik:i=k
        · rw [ik]at hs;exact c2 s hs
        · exact List.mem_append_left _ (hc i (by omega) s hs)
      · show 7-((k+1:Nat):Int).toNat<7-((k:Nat):Int).toNat
        rw [Int.toNat_natCast,Int.toNat_natCast];omega
    · refine .inl ⟨by rw [ZfW,decide_eq_false hlt],o,k,v3,f,λa ha t ht => ?_,h0,rfl⟩
      obtain⟨i,hi⟩:=List.getElem?_of_mem ha;have hil:=(List.getElem?_eq_some_iff.mp hi).1;refine hc i (by omega) t ?_;have hg:o.getD i 0=a:=by rw [List.getD_eq_getElem?_getD,hi];rfl
      rw [hg];exact ht) (TE6 W [0] 0 none none none) ⟨[0],0,none,⟨by simp,λa ha=>by rw [List.mem_singleton.mp ha];exact h.m0⟩,λi hi=>by omega,Nat.zero_le _,List.mem_singleton.mpr rfl,rfl⟩
 have hol:=nodup_le m o f.nd f.lt;have hpos:0<o.length:=List.length_pos_of_mem h0;have hn4:=h.n4;refine⟨o.length,ZiZ W o,⟨hpos,by omega,h.n2,h.n4,by unfold ZiZ;rw [List.length_map],λr hr => ?_⟩,XA (δ:=[some (ZI W),none,none,none,none,none]) rfl ?_⟩
 · obtain⟨a,ha,rfl⟩:=List.mem_map.mp hr
   obtain⟨r,_,er,or⟩:=h.row (f.lt a ha);refine⟨by rw [List.length_map,er,or.ln],λb hb => ?_⟩;obtain⟨x,hx,ex⟩:=List.mem_map.mp hb;cases x with
   |none=>cases ex
   |some t=>
    cases ex;exact(List.getElem?_eq_some_iff.mp (ZfV t o (hc a ha t hx))).1
 · rw [ZiP,Zt (ZP (Ut (Zo (x:=.int 0) rfl nil_of) (by show 1<=1000;decide))),Zt (ZP rfl)]
   refine(Zt hw).trans ?_;rw [Zt (ZP (Ut nil_of (by decide)))]
   obtain⟨δ2,hf,v5,rfl⟩:=VY (γ:=Zp 5) (φ:=Yj 4 (eCB Yi (Zb (Yp (Z6 (eOp ixD (Za 0) (Za 5))) (Zp 0) (λ_=>some true) mtC 1 [1]) eNil))) iN (λdn δ=>∃v5,δ=TE6 W o k v3 (some (.lst ((dn.map λa=>(W.getD a []).map (VZ o)).map ZL))) v5) o (TE6 W o k v3 (some (.lst [])) none)
    ⟨none,rfl⟩ λdn a tl δ ee ⟨v5,eδ⟩=>by
      subst eδ;have hao:a∈o:=by rw [ee];exact List.mem_append_right _ List.mem_cons_self
      have hdl:dn.length<=6:=by
       have:=congrArg List.length ee;rw [List.length_append]at this;omega
      refine⟨TE6 W o k v3 (some (.lst ((dn.map λa=>(W.getD a []).map (VZ o)).map ZL))) (some (iN a)),rfl,?_⟩;obtain⟨r,_,er,or⟩:=h.row (f.lt a hao);have hi:Z6 (eOp ixD (Za 0) (Za 5)) (TE6 W o k v3 (some (.lst ((dn.map λa=>(W.getD a []).map (VZ o)).map ZL))) (some (iN a)))=some ((W.getD a []).map oD):=ZaO (ZcZ h (f.lt a hao) rfl rfl)
      have hcp:=Ji (γ:=Zp 0) (ε:=mtC) (δ0:=[none,some (AD o)]) oD (λx=>oD (VZ o x)) (W.getD a []) λx hx=>by
       refine⟨[some (oD x),some (AD o)],rfl,?_⟩;cases x with
       |none=>rfl
       |some t=>
        have ht:t∈o:=hc a hao t hx;have e1:xB (Y9 (Za 0)) [some (oD (some t)),some (AD o)]=some false:=rfl;unfold mtC eIf;rw [e1];exact ZcP (i:=1) (j:=0) (a:=t) rfl rfl ht
      have e2:=U2 (n:=1) (js:=[1]) hi rfl hcp (by rw [List.length_map,er,or.ln];omega)
      have e3:eCB Yi (Zb (Yp (Z6 (eOp ixD (Za 0) (Za 5))) (Zp 0) (λ_=>some true) mtC 1 [1]) eNil) (TE6 W o k v3 (some (.lst ((dn.map λa=>(W.getD a []).map (VZ o)).map ZL))) (some (iN a)))=some (ZL ((W.getD a []).map (VZ o))):=(YG (Zo e2 nil_of)).trans (by
       unfold ZL;rw [List.map_map];rfl)
      refine⟨_,U0 rfl e3 (by rw [List.length_map,List.length_map];omega),some (iN a),?_⟩;rw [List.map_append,List.map_append];rfl
   refine(Zt (YF (ZaO (xs:=o.map iN) rfl) hf)).trans (Y3 ((YG (Zo (x:=.lst ((ZiZ W o).map ZL)) rfl nil_of)).trans rfl))
end K17
namespace K17
open DL L2
structure Sh(k:Nat)(d:D):Prop where
 can:PySem.PyData.canLay0 (toP d)=true
 dep:PySem.PyData.depth (toP d)<=k
theorem ZfX{k:Nat}:∀{xs:List D},(∀x∈xs,Sh k x)->PySem.PyData.canLayAll0 (Xm xs)=true/\PySem.PyData.depthAll (Xm xs)<=k
 | [],_=>⟨rfl,Nat.zero_le _⟩
 |x::xs,h=>by
  obtain⟨h1,h2⟩:=ZfX (xs:=xs) λy hy=>h y (List.mem_cons_of_mem _ hy)
  have hx:=h x List.mem_cons_self;rw [Xm,PySem.PyData.canLayAll0,PySem.PyData.depthAll,hx.can,h1];exact⟨rfl,Nat.max_le.mpr ⟨hx.dep,h2⟩⟩
theorem ZfY{k:Nat}{xs:List D}(h:∀x∈xs,Sh k x):Sh (k+1) (.tup xs):=by
 obtain⟨h1,h2⟩:=ZfX h;exact⟨by rw [toP,PySem.PyData.canLay0];exact h1,by rw [toP,PySem.PyData.depth];omega⟩
theorem ZiT(k:Nat)(i:Int):Sh k (.int i):=⟨rfl,Nat.zero_le _⟩
theorem ZjU{k:Nat}{d:D}(h:Sh k d)(hk:k<=64):PySem.SeqAt.shaped (toP d)=true:=by
 unfold PySem.SeqAt.shaped;rw [h.can,decide_eq_true (Nat.le_trans h.dep hk)];rfl
theorem Zhl(W:Wy):Sh 2 (.tup (W.map ZL)):=by
 refine ZfY λx hx => ?_
 obtain⟨r,_,rfl⟩:=List.mem_map.mp hx;refine ZfY λy hy => ?_
 obtain⟨o,_,rfl⟩:=List.mem_map.mp hy;cases o with
 |none=>exact⟨rfl,Nat.le_refl _⟩
 |some a=>exact ZiT _ _
noncomputable def cE(e:DL.Env->Option D):DL.Env->Option D:=(ZE 2 Yu [] (Zb (Za 0) (Zb e eNil)))
theorem Zf8{ns:List Int}{e:DL.Env->Option D}{δ:DL.Env}(k:Nat)(h0:Za 0 δ=some (.lst (ns.map D.int)))(he:e δ=some (.int (k:Int))):cE e δ=some (.int (ns.getD k 0)):=by
 have hd:Zb (Za 0) (Zb e eNil) δ=some [.lst (ns.map D.int),.int (k:Int)]:=Zo h0 (Zo he nil_of);exact(YR hd rfl).trans (U9 ns k)
noncomputable def a1:DL.Env->Option Out:=(Zi 1 (ZE 1 Ja [] (Zb (cE (eC (.int 0))) eNil)))
noncomputable def a2:DL.Env->Option Out:=(Zi 2 (eOp addX (eC (.int 1)) (eOp modD (cE (eC (.int 1))) (eC (.int 6)))))
noncomputable def a3:DL.Env->Option Out:=(Zi 3 (ZE 4 Jb [] (Zb (Za 0) (Zb (eC (.int 3)) (Zb (Za 2) (Zb (Za 1) eNil))))))
noncomputable def a4:DL.Env->Option Out:=(sIf (xB (eOp eqD (eOp modD (cE (eC (.int 2))) (eC (.int 2))) (eC (.int 1)))) (Zi 3 (ZE 1 Jd [] (Zb (ZE 3 Jc [] (Zb (Za 0) (Zb (Za 2) (Zb (Za 1) eNil)))) eNil))) sNext)
noncomputable def a5:DL.Env->Option Out:=(Zi 4 (Ve "Rooms" 3 Q5 [] (Zb (Za 1) (Zb (Za 3) eNil))))
noncomputable def a6:DL.Env->Option Out:=(Zi 5 (ZE 1 Q9 [] (Zb (Za 4) eNil)))
noncomputable def a7:DL.Env->Option Out:=(Zi 6 (ZE 1 Jf [] (Zb (Za 3) eNil)))
noncomputable def a8:DL.Env->Option Out:=(sIf (xB (eOp neD (YC YS "ways" (Za 4)) (Za 3))) (ZD (eC (.bl false))) sNext)
noncomputable def a9:DL.Env->Option Out:=(Ze (sIf (xB (Y9 (Za 6))) (ZD (Y9 (Za 5))) sNext) (ZD (Xn (Xs Q4 (Za 5)) (Xn (Vz (Xs Q3 (Za 5))) (eOp eqD (Za 5) (Za 6))))))
theorem ZiU:f_QO=Ze a1 (Ze a2 (Ze a3 (Ze a4 (Ze a5 (Ze a6 (Ze a7 (Ze a8 a9))))))):=rfl
abbrev LA(ns:List Int)(v1 v2 v3 v4 v5 v6:Option D):DL.Env:=[some (.lst (ns.map D.int)),v1,v2,v3,v4,v5,v6]
theorem ZjV(ns:List Int)(v1 v2 v3 v4:Option D)(x:Option Nat):a9 (LA ns v1 v2 v3 v4 (some (Lg.resD x)) (some (Lg.resD x)))=some (.rt (.bl true)):=by
 cases x with
 |none=>exact ZcX ((XU (Yx rfl)).trans (Y3 rfl))
 |some j=>
  refine(Zt ((Xg (Yx rfl)).trans rfl)).trans (Y3 ?_);refine Zdz (ZfL (d:=.int (j:Int)) rfl rfl) (Zdz ?_ ?_)
  · unfold Vz
    rw [ZfL (d:=.int (j:Int)) (b:=false) rfl rfl];rfl
  · exact(Zs (x:=.int (j:Int)) (y:=.int (j:Int)) rfl rfl).trans ((Vj _ _).trans (by rw [decide_eq_true rfl]))
theorem all_true(ns:List Int)(hns:ns.length<=63):Jg [.lst (ns.map D.int)]=some (.bl true):=by
 obtain⟨M,hM,hm1⟩:=Zfc (ns.getD 0 0);obtain⟨m,hm⟩:=ZfM (show 0<=1+ns.getD 1 0 % 6 by omega);have hm0:0<m:=by omega
 have hm6:m<=6:=by omega
 obtain⟨W0,hW0,hl⟩:=Zen ns m hM hm0 hm6;have c0:cE (eC (.int 0)) (LA ns none none none none none none)=some (.int (ns.getD 0 0)):=Zf8 0 rfl rfl;have t1:a1 (LA ns none none none none none none)=some (.nx (LA ns (some (.str M)) none none none none none)):=ZP ((YR (Zo c0 nil_of) rfl).trans hm1);have c1:cE (eC (.int 1)) (LA ns (some (.str M)) none none none none none)=some (.int (ns.getD 1 0)):=Zf8 1 rfl rfl
 have t2:a2 (LA ns (some (.str M)) none none none none none)=some (.nx (LA ns (some (.str M)) (some (.int (m:Int))) none none none none)):=ZP ((Zs (x:=.int 1) (y:=.int (ns.getD 1 0 % 6)) rfl ((Zs (y:=.int 6) c1 rfl).trans (Xz (by decide)))).trans ((add_int _ _).trans (by rw [hm])));have hd3:Zb (Za 0) (Zb (eC (.int 3)) (Zb (Za 2) (Zb (Za 1) eNil))) (LA ns (some (.str M)) (some (.int (m:Int))) none none none none)=some [.lst (ns.map D.int),.int 3,.int (m:Int),.str M]:=Zo rfl (Zo rfl (Zo rfl (Zo rfl nil_of)))
 have t3:a3 (LA ns (some (.str M)) (some (.int (m:Int))) none none none none)=some (.nx (LA ns (some (.str M)) (some (.int (m:Int))) (some (WT W0)) none none none)):=ZP ((YR hd3 rfl).trans hl);have c2:cE (eC (.int 2)) (LA ns (some (.str M)) (some (.int (m:Int))) (some (WT W0)) none none none)=some (.int (ns.getD 2 0)):=Zf8 2 rfl rfl;have hq:xB (eOp eqD (eOp modD (cE (eC (.int 2))) (eC (.int 2))) (eC (.int 1))) (LA ns (some (.str M)) (some (.int (m:Int))) (some (WT W0)) none none none)=some (decide (ns.getD 2 0 % 2=1)):=Yx ((Zs (x:=.int (ns.getD 2 0 % 2)) (y:=.int 1) ((Zs (y:=.int 2) c2 rfl).trans (Xz (by decide))) rfl).trans (Vj _ _))
 have t4:∃m' W,Ok m' M.length W/\a4 (LA ns (some (.str M)) (some (.int (m:Int))) (some (WT W0)) none none none)=some (.nx (LA ns (some (.str M)) (some (.int (m:Int))) (some (WT W)) none none none)):=by
  by_cases e:ns.getD 2 0 % 2=1
  · obtain⟨W1,hW1,h1⟩:=ZcQ ns m hM hm0 hm6
    obtain⟨m',W2,hW2,h2⟩:=ZiS hW1;have hd4:Zb (Za 0) (Zb (Za 2) (Zb (Za 1) eNil)) (LA ns (some (.str M)) (some (.int (m:Int))) (some (WT W0)) none none none)=some [.lst (ns.map D.int),.int (m:Int),.str M]:=Zo rfl (Zo rfl (Zo rfl nil_of));exact⟨m',W2,hW2,(XU (by rw [hq,decide_eq_true e])).trans (ZP ((YR (Zo ((YR hd4 rfl).trans h1) nil_of) rfl).trans h2))⟩
  · exact⟨m,W0,hW0,(Xg (by rw [hq,decide_eq_false e])).trans rfl⟩
 obtain⟨m',W,hW,t4⟩:=t4;have hW6:=hW.m6;have t5:a5 (LA ns (some (.str M)) (some (.int (m:Int))) (some (WT W)) none none none)=some (.nx (LA ns (some (.str M)) (some (.int (m:Int))) (some (WT W)) (some (Zw M W)) none none)):=ZP ((Zg3 (Zo rfl (Zo rfl nil_of)) rfl).trans (Zhb M W (by rw [hW.ln];omega)));obtain⟨Q,hQ,hmem⟩:=Zer (M:=M) hW hW.n4 hW.m6;have t6:a6 (LA ns (some (.str M)) (some (.int (m:Int))) (some (WT W)) (some (Zw M W)) none none)=some (.nx (LA ns (some (.str M)) (some (.int (m:Int))) (some (WT W)) (some (Zw M W)) (some (Lg.resD (Pl.kah (nb W) Q (Q.length+1) 0))) none)):=ZP ((YR (ds:=[Zw M W]) rfl rfl).trans hmem)
 have t7:a7 (LA ns (some (.str M)) (some (.int (m:Int))) (some (WT W)) (some (Zw M W)) (some (Lg.resD (Pl.kah (nb W) Q (Q.length+1) 0))) none)=some (.nx (LA ns (some (.str M)) (some (.int (m:Int))) (some (WT W)) (some (Zw M W)) (some (Lg.resD (Pl.kah (nb W) Q (Q.length+1) 0))) (some (Lg.resD (Pl.kah (nb W) Q (Q.length+1) 0))))):=ZP ((YR (ds:=[WT W]) rfl rfl).trans (ZiK hW hQ));generalize Pl.kah (nb W) Q (Q.length+1) 0=x at t6 t7
 have ew:YC YS "ways" (Za 4) (LA ns (some (.str M)) (some (.int (m:Int))) (some (WT W)) (some (Zw M W)) (some (Lg.resD x)) (some (Lg.resD x)))=some (WT W):=Jl rfl;have t8:a8 (LA ns (some (.str M)) (some (.int (m:Int))) (some (WT W)) (some (Zw M W)) (some (Lg.resD x)) (some (Lg.resD x)))=some (.nx (LA ns (some (.str M)) (some (.int (m:Int))) (some (WT W)) (some (Zw M W)) (some (Lg.resD x)) (some (Lg.resD x)))):=(Xg (Yx ((Zs (y:=WT W) ew rfl).trans (Zfb rfl (ZjU (Zhl W) (by decide)))))).trans rfl
 refine XA (δ:=LA ns none none none none none none) rfl ?_;rw [ZiU,Zt t1,Zt t2,Zt t3,Zt t4,Zt t5,Zt t6,Zt t7,Zt t8];exact ZjV ns _ _ _ _ x
end K17
namespace K17
open PySem PySem.Spec L2 DL
def Jr(K:PySem.W.Frag):Sp:=λvs H Q _=>∃(a:Addr) (ns:List Int),vs=[.ref a]/\SqL K H a (ns.map V.int)/\ns.length<=63/\∀H',Q (.bl true) H'
theorem ZiV(hall:∀ns:List Int,ns.length<=63->Jg [.lst (ns.map D.int)]=some (.bl true)){P:Program}{w:World}{K:PySem.W.Frag}{mg:Str->Option Value}{base:Heap}{t:Adr}(T:Txt K mg t):FnOk P w K mg base CX0 5 t.a_QO t.d_QO ["script"] (Jr K):=
 (ZjL T).imp λvs H Q E ⟨a,ns,hv,hr,hl,q⟩=>by
   subst hv;refine⟨λ_=>False,[.lst (ns.map D.int)],.bl true,λ_ z=>z.elim,.cons ?_ .nil,rfl,hall ns hl,λv H' _ r => ?_⟩
   · unfold Rep
     refine⟨a,_,rfl,λz=>z.elim,hr,?_⟩;have:=RepL.of_vals (cA:=⟨t.c,K⟩) (av:=λ_=>False) (H:=H) (xs:=ns.map D.int) (by rw [List.all_map];exact List.all_eq_true.mpr λ_ _=>rfl);rw [List.map_map]at this;exact this
   · cases(show v=_ from r)
     exact q H'
theorem all_mk (hall:∀ns:List Int,ns.length<=63->Jg [.lst (ns.map D.int)]=some (.bl true)) {l:PySem.W.OpenLaw} {w:World} {K:PySem.W.Frag} {h:Heap} {mg:Str->Option Value} {fa:Addr} (X:K.In h) (G:h.Ns mainGlobals mg) (hfa:mg "law" = some (.ref fa))
 {c_Rooms:Addr}
 {f0:Addr} {od0 an0:Option Addr} {sl0:Array (Option Value)} {oc0 kV0 dc0 pm0 cd0 ct0:Value}
 {f1:Addr} {od1 an1:Option Addr} {sl1:Array (Option Value)} {oc1 kV1 dc1 pm1 cd1 ct1:Value}
 {f2:Addr} {od2 an2:Option Addr} {sl2:Array (Option Value)} {oc2 kV2 dc2 pm2 cd2 ct2:Value}
 {f3:Addr} {od3 an3:Option Addr} {sl3:Array (Option Value)} {oc3 kV3 dc3 pm3 cd3 ct3:Value}
 {f4:Addr} {od4 an4:Option Addr} {sl4:Array (Option Value)} {oc4 kV4 dc4 pm4 cd4 ct4:Value}
 {f5:Addr} {od5 an5:Option Addr} {sl5:Array (Option Value)} {oc5 kV5 dc5 pm5 cd5 ct5:Value}
 {f6:Addr} {od6 an6:Option Addr} {sl6:Array (Option Value)} {oc6 kV6 dc6 pm6 cd6 ct6:Value}
 {f7:Addr} {od7 an7:Option Addr} {sl7:Array (Option Value)} {oc7 kV7 dc7 pm7 cd7 ct7:Value}
 {f8:Addr} {od8 an8:Option Addr} {sl8:Array (Option Value)} {oc8 kV8 dc8 pm8 cd8 ct8:Value}
 {f9:Addr} {od9 an9:Option Addr} {sl9:Array (Option Value)} {oc9 kV9 dc9 pm9 cd9 ct9:Value}
 {f10:Addr} {od10 an10:Option Addr} {sl10:Array (Option Value)} {oc10 kV10 dc10 pm10 cd10 ct10:Value}
 {f11:Addr} {od11 an11:Option Addr} {sl11:Array (Option Value)} {oc11 kV11 dc11 pm11 cd11 ct11:Value}
 {f12:Addr} {od12 an12:Option Addr} {sl12:Array (Option Value)} {oc12 kV12 dc12 pm12 cd12 ct12:Value}
 {f13:Addr} {od13 an13:Option Addr} {sl13:Array (Option Value)} {oc13 kV13 dc13 pm13 cd13 ct13:Value}
 {f14:Addr} {od14 an14:Option Addr} {sl14:Array (Option Value)} {oc14 kV14 dc14 pm14 cd14 ct14:Value}
 {f15:Addr} {od15 an15:Option Addr} {sl15:Array (Option Value)} {oc15 kV15 dc15 pm15 cd15 ct15:Value}
 {f16:Addr} {od16 an16:Option Addr} {sl16:Array (Option Value)} {oc16 kV16 dc16 pm16 cd16 ct16:Value}
 {pt cn bm:Addr} {odc:Option Addr} {vsc:Array Value} {slc slm:Array (Option Value)} {fln:Str} {flg txl:Int} {inf_:Bool} {tkf tkg tkt:Tok}
 (Zk6:nsIn K mainGlobals "Rooms" = some (some (.ref c_Rooms)))
 (a0:nsIn K mainGlobals "_wall" = some (some (.ref f0)))
 (l0:K.lookup f0=some ⟨oc0,od0,.func (fnOf "_wall" "_wall" (defArgs Vk) (defBody Vk) (defScope Vk) .none kV0 dc0 pm0 an0 cd0 ct0),sl0⟩)
 (c0:codeIn K cd0 "_wall" = true)
 (k0:keepIn K (.ref f0)=true)
 (a1:PySem.W.findIn K (.ref c_Rooms) "__init__" = some (some (.ref f1)))
 (l1:K.lookup f1=some ⟨oc1,od1,.func (fnOf "__init__" "Rooms.__init__" (defArgs XB) (defBody XB) (defScope XB) .none kV1 dc1 pm1 an1 cd1 ct1),sl1⟩)
 (c1:codeIn K cd1 "Rooms.__init__" = true)
 (k1:keepIn K (.ref f1)=true)
 (a2:PySem.W.findIn K (.ref c_Rooms) "many" = some (some (.ref f2)))
 (l2:K.lookup f2=some ⟨oc2,od2,.func (fnOf "many" "Rooms.many" (defArgs XW) (defBody XW) (defScope XW) .none kV2 dc2 pm2 an2 cd2 ct2),sl2⟩)
 (c2:codeIn K cd2 "Rooms.many" = true)
 (k2:keepIn K (.ref f2)=true)
 (a3:PySem.W.findIn K (.ref c_Rooms) "led" = some (some (.ref f3)))
 (l3:K.lookup f3=some ⟨oc3,od3,.func (fnOf "led" "Rooms.led" (defArgs Vl) (defBody Vl) (defScope Vl) .none kV3 dc3 pm3 an3 cd3 ct3),sl3⟩)
 (c3:codeIn K cd3 "Rooms.led" = true)
 (k3:keepIn K (.ref f3)=true)
 (a4:PySem.W.findIn K (.ref c_Rooms) "walked" = some (some (.ref f4)))
 (l4:K.lookup f4=some ⟨oc4,od4,.func (fnOf "walked" "Rooms.walked" (defArgs Vm) (defBody Vm) (defScope Vm) .none kV4 dc4 pm4 an4 cd4 ct4),sl4⟩)
 (c4:codeIn K cd4 "Rooms.walked" = true)
 (k4:keepIn K (.ref f4)=true)
 (a5:nsIn K mainGlobals "all_followers" = some (some (.ref f5)))
 (l5:K.lookup f5=some ⟨oc5,od5,.func (fnOf "all_followers" "all_followers" (defArgs XX) (defBody XX) (defScope XX) .none kV5 dc5 pm5 an5 cd5 ct5),sl5⟩)
 (c5:codeIn K cd5 "all_followers" = true)
 (k5:keepIn K (.ref f5)=true)
 (a6:nsIn K mainGlobals "longest" = some (some (.ref f6)))
 (l6:K.lookup f6=some ⟨oc6,od6,.func (fnOf "longest" "longest" (defArgs XC) (defBody XC) (defScope XC) .none kV6 dc6 pm6 an6 cd6 ct6),sl6⟩)
 (c6:codeIn K cd6 "longest" = true)
 (k6:keepIn K (.ref f6)=true)
 (a7:nsIn K mainGlobals "memory" = some (some (.ref f7)))
 (l7:K.lookup f7=some ⟨oc7,od7,.func (fnOf "memory" "memory" (defArgs XD) (defBody XD) (defScope XD) .none kV7 dc7 pm7 an7 cd7 ct7),sl7⟩)
 (c7:codeIn K cd7 "memory" = true)
 (k7:keepIn K (.ref f7)=true)
 (a8:nsIn K mainGlobals "_law_cell_at" = some (some (.ref f8)))
 (l8:K.lookup f8=some ⟨oc8,od8,.func (fnOf "_law_cell_at" "_law_cell_at" (defArgs XY) (defBody XY) (defScope XY) .none kV8 dc8 pm8 an8 cd8 ct8),sl8⟩)
 (c8:codeIn K cd8 "_law_cell_at" = true)
 (k8:keepIn K (.ref f8)=true)
 (a9:nsIn K mainGlobals "_law_marks" = some (some (.ref f9)))
 (l9:K.lookup f9=some ⟨oc9,od9,.func (fnOf "_law_marks" "_law_marks" (defArgs XZ) (defBody XZ) (defScope XZ) .none kV9 dc9 pm9 an9 cd9 ct9),sl9⟩)
 (c9:codeIn K cd9 "_law_marks" = true)
 (k9:keepIn K (.ref f9)=true)
 (a10:nsIn K mainGlobals "_law_table" = some (some (.ref f10)))
 (l10:K.lookup f10=some ⟨oc10,od10,.func (fnOf "_law_table" "_law_table" (defArgs X0) (defBody X0) (defScope X0) .none kV10 dc10 pm10 an10 cd10 ct10),sl10⟩)
 (c10:codeIn K cd10 "_law_table" = true)
 (k10:keepIn K (.ref f10)=true)
 (a11:nsIn K mainGlobals "_law_living" = some (some (.ref f11)))
 (l11:K.lookup f11=some ⟨oc11,od11,.func (fnOf "_law_living" "_law_living" (defArgs XE) (defBody XE) (defScope XE) .none kV11 dc11 pm11 an11 cd11 ct11),sl11⟩)
 (c11:codeIn K cd11 "_law_living" = true)
 (k11:keepIn K (.ref f11)=true)
 (a12:nsIn K mainGlobals "_law_by_mark" = some (some (.ref f12)))
 (l12:K.lookup f12=some ⟨oc12,od12,.func (fnOf "_law_by_mark" "_law_by_mark" (defArgs X1) (defBody X1) (defScope X1) .none kV12 dc12 pm12 an12 cd12 ct12),sl12⟩)
 (c12:codeIn K cd12 "_law_by_mark" = true)
 (k12:keepIn K (.ref f12)=true)
 (a13:nsIn K mainGlobals "_law_met" = some (some (.ref f13)))
 (l13:K.lookup f13=some ⟨oc13,od13,.func (fnOf "_law_met" "_law_met" (defArgs XF) (defBody XF) (defScope XF) .none kV13 dc13 pm13 an13 cd13 ct13),sl13⟩)
 (c13:codeIn K cd13 "_law_met" = true)
 (k13:keepIn K (.ref f13)=true)
 (a14:nsIn K mainGlobals "_law_next" = some (some (.ref f14)))
 (l14:K.lookup f14=some ⟨oc14,od14,.func (fnOf "_law_next" "_law_next" (defArgs X2) (defBody X2) (defScope X2) .none kV14 dc14 pm14 an14 cd14 ct14),sl14⟩)
 (c14:codeIn K cd14 "_law_next" = true)
 (k14:keepIn K (.ref f14)=true)
 (a15:nsIn K mainGlobals "_law_due" = some (some (.ref f15)))
 (l15:K.lookup f15=some ⟨oc15,od15,.func (fnOf "_law_due" "_law_due" (defArgs X3) (defBody X3) (defScope X3) .none kV15 dc15 pm15 an15 cd15 ct15),sl15⟩)
 (c15:codeIn K cd15 "_law_due" = true)
 (k15:keepIn K (.ref f15)=true)
 (a16:nsIn K mainGlobals "law" = some (some (.ref f16)))
 (l16:K.lookup f16=some ⟨oc16,od16,.func (fnOf "law" "law" (defArgs Y4) (defBody Y4) (defScope Y4) .none kV16 dc16 pm16 an16 cd16 ct16),sl16⟩)
 (c16:codeIn K cd16 "law" = true)
 (k16:keepIn K (.ref f16)=true)
 (nr_0:cd7 = .ref cn)
 (nk_1:K.lookup cn=some ⟨.type "code",odc,.fields vsc,slc⟩)
 (nr_2:vsc[11]? = some (.ref pt))
 (nr_3:vsc[18]? = some (.str fln tkf))
 (nr_4:vsc[7]? = some (.int flg tkg))
 (nr_5:vsc[9]? = some (.bool inf_))
 (nr_6:vsc[10]? = some (.int txl tkt))
 (nd_7:cn≠pt)
 (nk_8:nsIn K mainGlobals "__builtins__" = some (some (.ref bm)))
 (nk_9:K.lookup bm=some ⟨.type "module",some builtinsNs,.plain,slm⟩)
 (Zk1:bm≠builtinsNs)
 (Zk2:(pt,("memory.<locals>.followers" : Str))∈X4 K)
 (Zk7:nsIn K mainGlobals "bool" = some none)
 (Zk8:nsIn K mainGlobals "int" = some none)
 (Zk9:nsIn K mainGlobals "isinstance" = some none)
 (Zla:nsIn K mainGlobals "len" = some none)
 (Zlb:nsIn K mainGlobals "list" = some none)
 (Zlc:nsIn K mainGlobals "range" = some none)
 (Zld:nsIn K mainGlobals "tuple" = some none)
 (Zle:nsIn K mainGlobals "zip" = some none)
 (Zk3:PySem.W.plainGet K c_Rooms Str.empty=true)
 (ZkD:PySem.W.hasDictIn K c_Rooms=true)
 (Zk4:PySem.W.plainOver K c_Rooms=true)
 (Zk5:PySem.W.findIn K (.ref c_Rooms) "__setattr__" = some (some (.builtin "object.__setattr__")))
 (ZkC:PySem.W.findIn K (.ref c_Rooms) "__class__" = some (some (.builtin "object.__class__")))
 (ZkE:PySem.W.mroIn K c_Rooms (.type "object")=some true)
 (ZkX:PySem.W.makesIn K c_Rooms=true)
 (ZkT:keepIn K (.ref c_Rooms)=true)
 (ZkW:PySem.W.findIn K (.ref c_Rooms) "__init__" = some (some (.ref f1)))
 (ZkV:isFn K (.ref f1)=true)
 (hn_:PySem.W.specialIn K (.builtin "object.__class__") "__get__" = some (some (.builtin "getset_descriptor.__get__")))
 (htk_:PySem.W.takesIn K (.builtin "object.__class__")=some true)
 (ZkZ:PySem.W.findIn K (.ref c_Rooms) "marks" = some none)
 (Zk0:PySem.W.findIn K (.ref c_Rooms) "ways" = some none)
 (ZkU:PySem.W.findIn K (.ref c_Rooms) "many" = some (some (.ref f2)))
 (ZkY:isFn K (.ref f2)=true)
 (ZkF:kitOne K (.type "NoneType") (.type "bool")=some false)
 (ZkJ:kitOne K (.type "bool") (.type "bool")=some true)
 (ZkL:kitOne K (.type "int") (.type "bool")=some false)
 (ZkP:kitOne K (.type "str") (.type "bool")=some false)
 (ZkN:kitOne K (.type "list") (.type "bool")=some false)
 (ZkR:kitOne K (.type "tuple") (.type "bool")=some false)
 (ZkH:kitOne K (.ref c_Rooms) (.type "bool")=some false)
 (ZkG:kitOne K (.type "NoneType") (.type "int")=some false)
 (ZkK:kitOne K (.type "bool") (.type "int")=some true)
 (ZkM:kitOne K (.type "int") (.type "int")=some true)
 (ZkQ:kitOne K (.type "str") (.type "int")=some false)
 (ZkO:kitOne K (.type "list") (.type "int")=some false)
 (ZkS:kitOne K (.type "tuple") (.type "int")=some false)
 (ZkI:kitOne K (.ref c_Rooms) (.type "int")=some false)
 : ∃fd:FuncData,(∀(s:Shared)(v:Value),BindsTo s fd ⟨[v],[]⟩ [("script",v)])/\∀base:Heap,K.In base->base.Ns mainGlobals mg->FnOk l.prog w K mg base CX0 5 fa fd ["script"] (Jr K):=by
 have e:=hfa.symm.trans (mg_of X G a16);cases e;have F0:FunX K "_wall" "_wall" Vk f0 _:=(ZH (st:=Vk) l0 c0 k0).x;have b0:=(ZH (st:=Vk) l0 c0 k0).binds (ps:=["k"]) λ_ _ _ _ _ _ us hl=>match us,hl with|[_],_=>rfl
 have F1:FunX K "__init__" "Rooms.__init__" XB f1 _:=(ZH (st:=XB) l1 c1 k1).x;have b1:=(ZH (st:=XB) l1 c1 k1).binds (ps:=["self", "marks", "ways"]) λ_ _ _ _ _ _ us hl=>match us,hl with|[_,_,_],_=>rfl
 have F2:FunX K "many" "Rooms.many" XW f2 _:=(ZH (st:=XW) l2 c2 k2).x;have b2:=(ZH (st:=XW) l2 c2 k2).binds (ps:=["self"]) λ_ _ _ _ _ _ us hl=>match us,hl with|[_],_=>rfl
 have F3:FunX K "led" "Rooms.led" Vl f3 _:=(ZH (st:=Vl) l3 c3 k3).x;have b3:=(ZH (st:=Vl) l3 c3 k3).binds (ps:=["self", "room", "mark"]) λ_ _ _ _ _ _ us hl=>match us,hl with|[_,_,_],_=>rfl
 have F4:FunX K "walked" "Rooms.walked" Vm f4 _:=(ZH (st:=Vm) l4 c4 k4).x;have b4:=(ZH (st:=Vm) l4 c4 k4).binds (ps:=["self", "room", "row"]) λ_ _ _ _ _ _ us hl=>match us,hl with|[_,_,_],_=>rfl
 have F5:FunX K "all_followers" "all_followers" XX f5 _:=(ZH (st:=XX) l5 c5 k5).x;have b5:=(ZH (st:=XX) l5 c5 k5).binds (ps:=["begins", "followers"]) λ_ _ _ _ _ _ us hl=>match us,hl with|[_,_],_=>rfl
 have F6:FunX K "longest" "longest" XC f6 _:=(ZH (st:=XC) l6 c6 k6).x;have b6:=(ZH (st:=XC) l6 c6 k6).binds (ps:=["begins", "followers"]) λ_ _ _ _ _ _ us hl=>match us,hl with|[_,_],_=>rfl
 have F7:FunX K "memory" "memory" XD f7 _:=(ZH (st:=XD) l7 c7 k7).x;have b7:=(ZH (st:=XD) l7 c7 k7).binds (ps:=["rooms"]) λ_ _ _ _ _ _ us hl=>match us,hl with|[_],_=>rfl
 have F8:FunX K "_law_cell_at" "_law_cell_at" XY f8 _:=(ZH (st:=XY) l8 c8 k8).x;have b8:=(ZH (st:=XY) l8 c8 k8).binds (ps:=["script", "k"]) λ_ _ _ _ _ _ us hl=>match us,hl with|[_,_],_=>rfl
 have F9:FunX K "_law_marks" "_law_marks" XZ f9 _:=(ZH (st:=XZ) l9 c9 k9).x;have b9:=(ZH (st:=XZ) l9 c9 k9).binds (ps:=["cell"]) λ_ _ _ _ _ _ us hl=>match us,hl with|[_],_=>rfl
 have F10:FunX K "_law_table" "_law_table" X0 f10 _:=(ZH (st:=X0) l10 c10 k10).x;have b10:=(ZH (st:=X0) l10 c10 k10).binds (ps:=["script", "at", "many", "marks"]) λ_ _ _ _ _ _ us hl=>match us,hl with|[_,_,_,_],_=>rfl
 have F11:FunX K "_law_living" "_law_living" XE f11 _:=(ZH (st:=XE) l11 c11 k11).x;have b11:=(ZH (st:=XE) l11 c11 k11).binds (ps:=["script", "at", "many", "marks"]) λ_ _ _ _ _ _ us hl=>match us,hl with|[_,_,_,_],_=>rfl
 have F12:FunX K "_law_by_mark" "_law_by_mark" X1 f12 _:=(ZH (st:=X1) l12 c12 k12).x;have b12:=(ZH (st:=X1) l12 c12 k12).binds (ps:=["script", "many", "marks"]) λ_ _ _ _ _ _ us hl=>match us,hl with|[_,_,_],_=>rfl
 have F13:FunX K "_law_met" "_law_met" XF f13 _:=(ZH (st:=XF) l13 c13 k13).x;have b13:=(ZH (st:=XF) l13 c13 k13).binds (ps:=["table"]) λ_ _ _ _ _ _ us hl=>match us,hl with|[_],_=>rfl
 have F14:FunX K "_law_next" "_law_next" X2 f14 _:=(ZH (st:=X2) l14 c14 k14).x;have b14:=(ZH (st:=X2) l14 c14 k14).binds (ps:=["ways", "pairs"]) λ_ _ _ _ _ _ us hl=>match us,hl with|[_,_],_=>rfl
 have F15:FunX K "_law_due" "_law_due" X3 f15 _:=(ZH (st:=X3) l15 c15 k15).x;have b15:=(ZH (st:=X3) l15 c15 k15).binds (ps:=["ways"]) λ_ _ _ _ _ _ us hl=>match us,hl with|[_],_=>rfl
 have F16:FunX K "law" "law" Y4 fa _:=(ZH (st:=Y4) l16 c16 k16).x;have b16:=(ZH (st:=Y4) l16 c16 k16).binds (ps:=["script"]) λ_ _ _ _ _ _ us hl=>match us,hl with|[_],_=>rfl
 have T:Txt K mg { a__wall:=f0,d__wall:=_,a_QH:=f1,d_QH:=_,a_QG:=f2,d_QG:=_,a_Rooms_led:=f3,d_Rooms_led:=_,a_Rooms_walked:=f4,d_Rooms_walked:=_,a_QB:=f5,d_QB:=_,a_QM:=f6,d_QM:=_,a_QN:=f7,d_QN:=_,a_QC:=f8,d_QC:=_,a_QI:=f9,d_QI:=_,a_QF:=f10,d_QF:=_,a_QE:=f11,d_QE:=_,a_QD:=f12,d_QD:=_,a_QK:=f13,d_QK:=_,a_QJ:=f14,d_QJ:=_,a_QL:=f15,d_QL:=_,a_QO:=fa,d_QO:=_,c_Rooms:=c_Rooms,p_memory_followers:=pt }:={ f__wall:=F0,b__wall:=b0,g__wall:=mg_of X G a0,k__wall:=k0,f_QH:=F1,b_QH:=b1,k_QH:=k1,f_QG:=F2,b_QG:=b2,k_QG:=k2,f_Rooms_led:=F3,b_Rooms_led:=b3,k_Rooms_led:=k3,f_Rooms_walked:=F4,b_Rooms_walked:=b4,k_Rooms_walked:=k4,f_QB:=F5,b_QB:=b5,g_QB:=mg_of X G a5,k_QB:=k5,f_QM:=F6,b_QM:=b6,g_QM:=mg_of X G a6,k_QM:=k6,f_QN:=F7,b_QN:=b7,g_QN:=mg_of X G a7,k_QN:=k7,f_QC:=F8,b_QC:=b8,g_QC:=mg_of X G a8,k_QC:=k8,f_QI:=F9,b_QI:=b9,g_QI:=mg_of X G a9,k_QI:=k9,f_QF:=F10,b_QF:=b10,g_QF:=mg_of X G a10,k_QF:=k10,f_QE:=F11,b_QE:=b11,g_QE:=mg_of X G a11,k_QE:=k11,f_QD:=F12,b_QD:=b12,g_QD:=mg_of X G a12,k_QD:=k12,f_QK:=F13,b_QK:=b13,g_QK:=mg_of X G a13,k_QK:=k13,f_QJ:=F14,b_QJ:=b14,g_QJ:=mg_of X G a14,k_QJ:=k14,f_QL:=F15,b_QL:=b15,g_QL:=mg_of X G a15,k_QL:=k15,f_QO:=F16,b_QO:=b16,g_QO:=mg_of X G a16,k_QO:=k16,tb_memory_followers:=Zk2,nk_memory_followers:=⟨cn,nr_0,Ze0 X G nk_1 nr_2 nr_3 nr_4 nr_5 nr_6 nd_7 nk_8 nk_9 Zk1⟩,n_bool:=mg_none_of X G Zk7,n_int:=mg_none_of X G Zk8,n_isinstance:=mg_none_of X G Zk9,n_len:=mg_none_of X G Zla,n_list:=mg_none_of X G Zlb,n_range:=mg_none_of X G Zlc,n_tuple:=mg_none_of X G Zld,n_zip:=mg_none_of X G Zle,g_Rooms:=mg_of X G Zk6,cl_Rooms:=⟨Zk3,ZkD,Zk4,Zk5⟩,ci_Rooms:=⟨⟨Zk3,ZkD,Zk4,Zk5⟩,ZkC,hn_,htk_,ZkE⟩,mk_Rooms:=⟨ZkX,ZkW,ZkV,ZkT⟩,fl_marks:=(by intro c hc;simp only [Q2,List.mem_cons,List.mem_nil_iff,or_false]at hc;rcases hc with rfl<;>first|exact⟨⟨Zk3,ZkD,Zk4,Zk5⟩,ZkZ⟩),fl_ways:=(by intro c hc;simp only [YS,List.mem_cons,List.mem_nil_iff,or_false]at hc;rcases hc with rfl<;>first|exact⟨⟨Zk3,ZkD,Zk4,Zk5⟩,Zk0⟩),me_Rooms_many:=⟨ZkU,ZkY,k2⟩,isi_bool:=Zdf (by intro p hp;simp only [Q3,List.mem_cons,List.mem_nil_iff,or_false]at hp;rcases hp with rfl|rfl|rfl|rfl|rfl|rfl|rfl<;>first|exact ZkF|exact ZkJ|exact ZkL|exact ZkP|exact ZkN|exact ZkR|exact⟨ZkH,⟨Zk3,ZkD,Zk4,Zk5⟩,ZkC,hn_,htk_,ZkE⟩),isi_int:=Zdf (by intro p hp;simp only [Q4,List.mem_cons,List.mem_nil_iff,or_false]at hp;rcases hp with rfl|rfl|rfl|rfl|rfl|rfl|rfl<;>first|exact ZkG|exact ZkK|exact ZkM|exact ZkQ|exact ZkO|exact ZkS|exact⟨ZkI,⟨Zk3,ZkD,Zk4,Zk5⟩,ZkC,hn_,htk_,ZkE⟩) }
 exact⟨fnOf "law" "law" (defArgs Y4) (defBody Y4) (defScope Y4) .none kV16 dc16 pm16 an16 cd16 ct16,λs v => .of_eq rfl,λbase _ _=>ZiV hall T⟩
theorem walk {l:PySem.W.OpenLaw} {q:Program} {loose:List Str} {XP:(Str->Option Value)->Heap->Prop} {YP:World->Heap->Prop} {d:DefRec} {K:Params->PySem.W.Frag} (hn:l.most=some 63) (hdf:d.params.defaults=[])
 {Pt:Addr} {qual:Str} (hY:∀(w:World)(h:Heap),YP w h->(K w.params).In h/\h.get? Pt=some (PySem.W.tabObj #[])) (hT:∀w:World,X4 (K w.params)=[(Pt,qual)]) (hKP:∀w:World,(K w.params).lookup Pt=none)
 (hct:∀w:World,∃c o vs,(K w.params).lookup c=some o/\o.cls = .type "code" /\ o.data = .fields vs/\vs[11]? = some (.ref Pt))
 (F:∀(w:World)(mg:Str->Option Value)(fa:Addr)(h:Heap),(K w.params).In h->h.Ns mainGlobals mg->mg d.name=some (.ref fa) ->
   ∃fd:FuncData,(∀(s:Shared)(u:Value),BindsTo s fd ⟨[u],[]⟩ [("script",u)])/\∀base:Heap,(K w.params).In base->base.Ns mainGlobals mg->FnOk l.prog w (K w.params) mg base CX0 5 fa fd ["script"] (Jr (K w.params))) :
 PySem.W.WalkO q loose XP YP l.row.toRowW d [] (λf vs=>PySem.call f vs):=
 L2.walk_of1 (n:=63) (k:=5) (x:="script") (CX:=λ_=>CX0) (sp:=λw=>Jr (K w.params)) hn (by decide) hdf ⟨rfl,by decide,by decide⟩ hY hT hKP hct F (λ_ _ a ns hl hS=>⟨a,ns,rfl,hS,hl,λ_=>rfl⟩) λ_ _ _ _ _ z=>z
theorem kA_in(w:World)(h:Heap)(Y:PySem.W.InK K17.kA w h):(K17.kP w.params).In h/\h.get? 75=some (PySem.W.tabObj #[]):=by
 have e:K17.kP w.params=(K17.kP w.params).dropLast++[(nat_lit 3,⟨(.str "memory.<locals>.followers" 0),some 75,.plain,#[]⟩)]:=by kernel_rfl
 rw [e];exact L2.in_marked (by kernel_rfl) (by kernel_rfl) Y
theorem kP_no(w:World):(K17.kP w.params).lookup 75=none:=by kernel_rfl
theorem kP_cod(w:World):∃c o vs,(K17.kP w.params).lookup c=some o/\o.cls = .type "code" /\ o.data = .fields vs/\vs[11]? = some (.ref 75):=⟨77,HT.c3 "memory" "memory" 268 51 1 3 74 75 .none .none 76 271 272,_,by kernel_rfl,rfl,rfl,rfl⟩
end K17
open PySem PySem.W PyProof.Rows
set_option maxRecDepth 100000 in
set_option maxHeartbeats 0 in
theorem PySem.Challenge.cw_grooveway_k17_what_rooms_remember_holds : PySem.Challenge.rw_grooveway_k17_what_rooms_remember.Holds := by
 w_on;o_law
 refine holds_open (r:=PySem.Challenge.rw_grooveway_k17_what_rooms_remember.row) (q:=(view PySem.Challenge.pw_grooveway_k17_what_rooms_remember [0,2,4,5,6,8,9,10,11,12,13,14,15,16])) (loose:=[]) (XP:=XL (view PySem.Challenge.pw_grooveway_k17_what_rooms_remember [0,2,4,5,6,8,9,10,11,12,13,14,15,16]) []) (YP:=InK K17.kA) K17.left (InK.of K17.kA_as) InK.keeps (λs e=>xl_of s (Bool.and_eq_true_iff.mp e).1) XL.keeps (by rfl) (by rfl) (by rfl) (λs e=>recFacts_of (Bool.and_eq_true_iff.mp e).2) (by rfl) (by assumption) (by decide +kernel) ⟨rfl,rfl,rfl,rfl,rfl,by decide +kernel⟩ ?hw ?hc
 case hw=>w_witness2
 k_fill
 refine K17.walk (l:=PySem.Challenge.rw_grooveway_k17_what_rooms_remember) rfl rfl (λw h Y=>K17.kA_in w h Y) (λ_=>K17.kP_tabs _) K17.kP_no K17.kP_cod ?F
 case F=>
  intro w mg fa h KX G hmg
  k_fill
  refine' K17.all_mk K17.all_true KX G hmg ?Zk6 ?a0 ?l0 ?c0 ?k0 ?a1 ?l1 ?c1 ?k1 ?a2 ?l2 ?c2 ?k2 ?a3 ?l3 ?c3 ?k3 ?a4 ?l4 ?c4 ?k4 ?a5 ?l5 ?c5 ?k5 ?a6 ?l6 ?c6 ?k6 ?a7 ?l7 ?c7 ?k7 ?a8 ?l8 ?c8 ?k8 ?a9 ?l9 ?c9 ?k9 ?a10 ?l10 ?c10 ?k10 ?a11 ?l11 ?c11 ?k11 ?a12 ?l12 ?c12 ?k12 ?a13 ?l13 ?c13 ?k13 ?a14 ?l14 ?c14 ?k14 ?a15 ?l15 ?c15 ?k15 ?a16 ?l16 ?c16 ?k16 ?nr_0 ?nk_1 ?nr_2 ?nr_3 ?nr_4 ?nr_5 ?nr_6 ?nd_7 ?nk_8 ?nk_9 ?Zk1 ?Zk2 ?Zk7 ?Zk8 ?Zk9 ?Zla ?Zlb ?Zlc ?Zld ?Zle ?Zk3 ?ZkD ?Zk4 ?Zk5 ?ZkC ?ZkE ?ZkX ?ZkT ?ZkW ?ZkV ?hn_ ?htk_ ?ZkZ ?Zk0 ?ZkU ?ZkY ?ZkF ?ZkJ ?ZkL ?ZkP ?ZkN ?ZkR ?ZkH ?ZkG ?ZkK ?ZkM ?ZkQ ?ZkO ?ZkS ?ZkI
  (case Zk6|a0|l0|c0|k0|a1|l1|c1|k1|a2|l2|c2|k2|a3|l3|c3|k3|a4|l4|c4|k4|a5|l5|c5|k5|a6|l6|c6|k6|a7|l7|c7|k7|a8|l8|c8|k8|a9|l9|c9|k9|a10|l10|c10|k10|a11|l11|c11|k11|a12|l12|c12|k12|a13|l13|c13|k13|a14|l14|c14|k14|a15|l15|c15|k15|a16|l16|c16|k16=>k_is)
  (case nr_0=>rfl)
  (case nk_1=>k_is)
  (case nr_2|nr_3|nr_4|nr_5|nr_6=>rfl)
  (case nd_7=>decide)
  (case nk_8|nk_9=>k_is)
  (case Zk1=>decide)
  (case Zk2=>(rw [K17.kP_tabs];exact List.mem_cons_self))
  (case Zk7|Zk8|Zk9|Zla|Zlb|Zlc|Zld|Zle|Zk3|ZkD|Zk4|Zk5|ZkC|ZkE|ZkX|ZkT|ZkW|ZkV|hn_|htk_|ZkZ|Zk0|ZkU|ZkY=>k_is)
  (case ZkF|ZkJ|ZkL|ZkP|ZkN|ZkR|ZkH|ZkG|ZkK|ZkM|ZkQ|ZkO|ZkS|ZkI=>kit_is)
