import PyProof.Rows.All
import Wide.All
import OpenK.AllK
import Wide.FinOn
import Lean
import PyProof.EqAt
import PyProof.EqKinds
import PyProof.TupleCall
import PyProof.Rows.StrCountLaw
import PyProof.Rows.StrFirst
import PyProof.Rows.StrLast
import PyProof.Rows.StrNews2
import PyProof.Rows.StrSplitCount
import PyProof.StrBlockI
import PyProof.StrLawsIn
import PyProof.StrLawsLast
import PyProof.EnumMake
import PyProof.FString
import PyProof.ReprStr
import PyProof.StrLawsRepr
import PyProof.ListStr
import PyProof.ListRange
import PySem.Challenge.RW_grooveway_k09_whole_pages_there_and_back
set_option Elab.async false
set_option linter.all false
set_option maxRecDepth 100000
set_option maxHeartbeats 4000000
open PySem.W (keepIn nsIn mg_of fnOf codeIn kitOne mg_none_of isFn instObj emptyDict)
namespace L2
open PySem PySem.Spec PyProof.Rows
abbrev Key:=Sum Int Str
def J4:Key->Value->Bool
 | .inl k,v=>Value.isInt k v
 | .inr x,v=>Value.isStrOf x v
def Zmb(w:World):Key->Int
 | .inl k=>hashInt k
 | .inr x=>hashStr w x
theorem Ub:∀{k:Key}{v:Value},J4 k v=true->(∃i t,k=Sum.inl i/\v=Value.int i t)\/(∃x t,k=Sum.inr x/\v=Value.str x t)
 | .inl i,v,h=>by
  obtain⟨t,e⟩:=Value.isInt_shape (k:=i) (v:=v) h;exact .inl ⟨i,t,rfl,e⟩
 | .inr x,v,h=>by
  obtain⟨t,e⟩:=Value.isStrOf_shape (x:=x) (v:=v) h;exact .inr ⟨x,t,rfl,e⟩
theorem ZeH(x:Str)(t:Tok):J4 (.inr x) (.str x t)=true:=by simp [J4,Value.isStrOf]
theorem Zih(a b:Int):decide ((Sum.inl a:Key)=Sum.inl b)=(a == b):=by
 by_cases e:a=b
 · subst e;simp
 · have h:¬(Sum.inl a:Key)=Sum.inl b:=λq=>e (Sum.inl.inj q)
   rw [decide_eq_false h];exact(beq_eq_false_iff_ne.mpr e).symm
theorem Zii(a b:Str):decide ((Sum.inr a:Key)=Sum.inr b)=decide (a=b):=by
 by_cases e:a=b
 · subst e;simp
 · have h:¬(Sum.inr a:Key)=Sum.inr b:=λq=>e (Sum.inr.inj q)
   rw [decide_eq_false h,decide_eq_false e]
theorem Zij(a:Int)(b:Str):decide ((Sum.inl a:Key)=Sum.inr b)=false:=decide_eq_false (λq=>nomatch q)
theorem Zik(a:Str)(b:Int):decide ((Sum.inr a:Key)=Sum.inl b)=false:=decide_eq_false (λq=>nomatch q)
def Qh(prog:Program)(w:World):PySem.KeyKind prog w Key where
 is:=J4
 hash:=Zmb w
 inj:=λv a b ha hb=>by
  rcases Ub ha with⟨i,t,rfl,rfl⟩|⟨x,t,rfl,rfl⟩
  · rcases Ub hb with⟨j,u,rfl,e⟩|⟨y,u,rfl,e⟩
    · injection e with e1 _;rw [e1]
    · exact nomatch e
  · rcases Ub hb with⟨j,u,rfl,e⟩|⟨y,u,rfl,e⟩
    · exact nomatch e
    · injection e with e1 _;rw [e1]
 byValue:=λk v h=>by
  rcases Ub h with⟨i,t,rfl,rfl⟩|⟨x,t,rfl,rfl⟩<;>rfl
 pyHash:=λhv h=>by
  rcases Ub hv with⟨i,t,rfl,rfl⟩|⟨x,t,rfl,rfl⟩
  · exact wpAny_pyHash_int h
  · exact wpAny_pyHash_str h
 eqBool:=λhu hv h=>by
  rcases Ub hu with⟨i,t,rfl,rfl⟩|⟨x,t,rfl,rfl⟩
  · rcases Ub hv with⟨j,u,rfl,rfl⟩|⟨y,u,rfl,rfl⟩
    · rw [Zih]at h;exact wpAny_eqBool_int h
    · rw [Zij]at h;exact SeqAt.EqAt.int_str i t y u _ _ _ _ h
  · rcases Ub hv with⟨j,u,rfl,rfl⟩|⟨y,u,rfl,rfl⟩
    · rw [Zik]at h;exact SeqAt.EqAt.str_int x t j u _ _ _ _ h
    · rw [Zii]at h;exact wpAny_eqBool_str h
 «strs» := λk x t v h=>by
  rcases Ub h with⟨i,u,rfl,e⟩|⟨y,u,rfl,e⟩
  · exact nomatch e
  · injection e with e1 _
    subst e1;cases v<;>rfl
theorem Zax(prog:Program)(w:World)(x:Str)(t:Tok):(Qh prog w).is (.inr x) (.str x t)=true:=ZeH x t
end L2
namespace L2
open PySem PySem.Spec PyProof.Rows
inductive V where
 |non|bl (b:Bool)|int (i:Int)|str (x:Str)|byt (b:Array UInt8)|flt (b:UInt64)|ref (a:Addr)|ty (n:String)
 deriving DecidableEq
def RelV:V->Value->Prop
 | .non,u=>u=Value.none
 | .bl b,u=>u=Value.bool b
 | .int i,u=>∃t,u=Value.int i t
 | .str x,u=>∃t,u=Value.str x t
 | .byt b,u=>∃t,u=Value.bytes b t
 | .flt b,u=>∃t,u=Value.float b t
 | .ref a,u=>u=Value.ref a
 | .ty n,u=>u=Value.type n
abbrev Vals:List V->List Value->Prop:=Paired RelV
theorem Vals.length{xs:List V}{us:List Value}(r:Vals xs us):xs.length=us.length:=Paired.length r
theorem Vals.get:∀{xs:List V}{us:List Value}{i:Nat}{x:V},Vals xs us->xs[i]? = some x->∃u,us[i]? = some u/\RelV x u
 |_,_,_,_,.nil,e=>by simp at e
 |_,_,0,_,.cons r _,e=>by simp at e;subst e;exact⟨_,rfl,r⟩
 |_,_,i+1,x,.cons _ t,e=>by
  obtain⟨u,h1,h2⟩:=Vals.get (i:=i) (x:=x) t (by simpa using e);exact⟨u,by simpa using h1,h2⟩
theorem Vals.set{x:V}{u:Value}(r:RelV x u):∀{xs:List V}{us:List Value}(i:Nat),Vals xs us->Vals (xs.set i x) (us.set i u)
 |_,_,_,.nil => .nil
 |_,_,0,.cons _ t => .cons r t
 |_,_,i+1,.cons q t => .cons q (Vals.set r i t)
theorem Vals.append:∀{xs ys:List V}{us ws:List Value},Vals xs us->Vals ys ws->Vals (xs++ys) (us++ws)
 |_,_,_,_,.nil,s=>s
 |_,_,_,_,.cons r t,s => .cons r (Vals.append t s)
theorem Vals.take:∀{xs:List V}{us:List Value}(n:Nat),Vals xs us->Vals (xs.take n) (us.take n)
 |_,_,0,_ => .nil
 |_,_,_+1,.nil => .nil
 |_,_,n+1,.cons r t => .cons r (Vals.take n t)
theorem Vals.drop:∀{xs:List V}{us:List Value}(n:Nat),Vals xs us->Vals (xs.drop n) (us.drop n)
 |_,_,0,r=>r
 |_,_,_+1,.nil => .nil
 |_,_,n+1,.cons _ t=>Vals.drop n t
def RelO:Option V->Option Value->Prop
 |some v,some u=>RelV v u
 |none,none=>True
 |_,_=>False
def KV{κ:Type}:List (κ×V)->List (κ×Value)->Prop:=Paired λ(p:κ×V) (q:κ×Value)=>p.1=q.1/\RelV p.2 q.2
def kV:Key->V
 | .inl i => .int i
 | .inr x => .str x
inductive HO where
 |lst (xs:List V)
 |tup (xs:List V)
 |dK (kvs:List (Key×V))|dT (kvs:List (List Key×V))
 |set (S:Int->Bool) (n:Nat)
 |ins (C dx:Addr) (fs:List (Str×V))
 |own (x:Addr)
 |xd (fs:List (Str×V))
 |met (f x:Addr)
 |rng (lo hi:Int)
 |frz (o:Obj) (u:HO)
 |tbl (ps:Array Value)
 |cod (q:Str)
 |fnc (c:Addr) (q:Str)
 |ext (φ:Heap->Prop)
abbrev Hp:=Addr->Option HO
def upd(H:Hp)(a:Addr)(o:HO):Hp:=λb=>if b=a then some o else H b
theorem Yo{H:Hp}{a:Addr}{o:HO}:upd H a o a=some o:=by unfold upd;rw [if_pos rfl]
theorem Zx{H:Hp}{a b:Addr}{o:HO}(h:b≠a):upd H a o b=H b:=by unfold upd;rw [if_neg h]
theorem Yy{H:Hp}{a b:Addr}{o:HO}(h:H a=some o)(h':H b=none):a≠b:=by
 intro e;subst e;rw [h]at h';cases h'
def TupN(h:Heap)(a:Addr)(its:Array Value):Prop:=∃o,h.get? a=some o/\o.cls = .type "tuple" /\ (∃n,o.data = .seq its n)/\o.dict=none
theorem TupN.tup{h:Heap}{a:Addr}{its:Array Value}(x:TupN h a its):IsTup h a its:=let⟨o,e,c,d,_⟩:=x;⟨o,e,c,d⟩
theorem TupN.new(h:Heap)(its:Array Value):TupN (h.push { cls := .type "tuple",data := .seq its }) h.objs.size its:=⟨_,Heap.get?_push_size _ rfl,rfl,⟨_,rfl⟩,rfl⟩
section
variable(P:Program)(w:World)
def ObjOk(H:Hp)(h:Heap)(a:Addr):HO->Prop
 | .lst xs=>xs.length<=sizeLine/\∃(its:List Value) (n:Nat),Vals xs its/\h.get? a=some { cls := .type "list",data := .seq its.toArray n }
 | .tup xs=>xs.length<=sizeLine/\∃its:List Value,Vals xs its/\TupN h a its.toArray
 | .dK kvs=>kvs.length<=sizeLine/\(a == sysModules)=false/\∃vs,KV kvs vs/\h.DictOf (Qh P w) a vs
 | .dT kvs=>kvs.length<=sizeLine/\(a == sysModules)=false/\∃xs:List (List Key×Addr×Value),
  Paired (λ(p:List Key×V) (q:List Key×Addr×Value)=>p.1=q.1/\H q.2.1=some (.tup (p.1.map kV))/\RelV p.2 q.2.2) kvs xs /\
  ∃o es ep,h.get? a=some o/\o.ExactDict/\o.data = .dict es ep/\es.toList=xs.map (entryOfKey (tupleKind (Qh P w)))/\(xs.map (·.1)).Nodup
 | .set S n=>h.SetOf (intKind P w) a S n
 | .ins C dx fs=>H dx=some (.own a)/\fs.length<=1000/\dx≠a/\h.get? a=some (instObj C dx) /\
  ∃mA,h.Ns1 dx mA/\(∀f,RelO (fs.lookup f) (mA f))/\PySem.Within mA (fs.map (·.1))
 | .own _=>∃o,h.get? a=some o
 | .xd fs=>∃mA,h.Ns1 a mA/\∀f,RelO (fs.lookup f) (mA f)
 | .rng lo hi=>∃t u v,h.get? a=some { cls := .type "range",data := .fields #[.int lo t,.int hi u,.int 1 v] }
 | .frz o u=>h.get? a=some o/\ObjOk H h a u
 | .tbl ps=>∃qs:Array Value,h.get? a=some (PySem.W.tabObj qs)/\TriplesOk qs.toList/\∀pos cv,codeAmong pos qs.toList=some cv->∃c oc q u,cv = .ref c/\H c=some (.frz oc (.cod q))/\ps[0]? = some (.str q u)
 | .cod q=>h.CodeRec (.ref a) q
 | .fnc c q=>(∃o,h.get? a=some o)/\∃oc,H c=some (.frz oc (.cod q))
 | .met f x=>h.get? a=some (PySem.W.methodObj (.ref f) (.ref x))
 | .ext φ=>φ h/\(∃o,h.get? a=some o)/\∀h1 h2:Heap,φ h1->(∀o,h1.get? a=some o->h2.get? a=some o)->φ h2
def HOk(H:Hp)(h:Heap):Prop:=∀a o,H a=some o->ObjOk P w H h a o
end
section
variable{P:Program}{w:World}{H H':Hp}{h h':Heap}{a:Addr}{o:HO}
theorem ObjOk.lt(x:ObjOk P w H h a o):a<h.objs.size:=by
 cases o with
 |lst xs=>obtain⟨_,_,_,_,e⟩:=x;exact Heap.lt_size e
 |tup xs=>obtain⟨_,_,_,p⟩:=x;exact p.tup.lt
 |dK kvs=>obtain⟨_,_,_,_,o,_,_,e,_⟩:=x;exact Heap.lt_size e
 |dT kvs=>obtain⟨_,_,_,_,o,_,_,e,_⟩:=x;exact Heap.lt_size e
 |set S n=>obtain⟨o,_,_,_,e,_⟩:=x;exact Heap.lt_size e
 |ins C dx fs=>obtain⟨_,_,_,e,_⟩:=x;exact Heap.lt_size e
 |own y=>obtain⟨_,e⟩:=x;exact Heap.lt_size e
 |xd fs=>obtain⟨_,⟨_,_,_,e,_⟩,_⟩:=x;exact Heap.lt_size e
 |rng lo hi=>obtain⟨_,_,_,e⟩:=x;exact Heap.lt_size e
 |frz ob u=>obtain⟨e,_⟩:=x;exact Heap.lt_size e
 |tbl ps=>obtain⟨_,e,_⟩:=x;exact Heap.lt_size e
 |cod q=>obtain⟨_,_,_,_,e,g,_⟩:=x;cases e;exact Heap.lt_size g
 |fnc c q=>obtain⟨⟨o,e⟩,_⟩:=x;exact Heap.lt_size e
 |met f y=>exact Heap.lt_size (show h.get? a=some _ from x)
 |ext φ=>obtain⟨_,⟨_,e⟩,_⟩:=x;exact Heap.lt_size e
theorem Paired.mapP{α β:Type}{F G:α->β->Prop}:∀{l₁:List α}{l₂:List β},Paired F l₁ l₂->(∀a b,F a b->G a b)->Paired G l₁ l₂
 |_,_,.nil,_ => .nil
 |_,_,.cons r t,f => .cons (f _ _ r) (Paired.mapP t f)
theorem ObjOk.stay (x:ObjOk P w H h a o) (k:∀b u,(b=a\/H b=some (.own a))->h.get? b=some u->h'.get? b=some u)
 (ho:∀b,H b=some (.own a)->H' b=some (.own a)) (ht:∀b xs,H b=some (.tup xs)->H' b=some (.tup xs))
 (hc:∀b ob q,H b=some (.frz ob (.cod q))->H' b=some (.frz ob (.cod q)):=by intro b' ob' q' e';first|exact e'|(rw [Zx (Yy e' (by assumption))];exact e')):ObjOk P w H' h' a o:=by
 induction o with
 |lst xs=>obtain⟨z,its,n,r,e⟩:=x;exact⟨z,its,n,r,k _ _ (.inl rfl) e⟩
 |tup xs=>obtain⟨z,its,r,ob,e,c⟩:=x;exact⟨z,its,r,ob,k _ _ (.inl rfl) e,c⟩
 |dK kvs=>obtain⟨z,y,vs,r,ob,es,ep,e,c⟩:=x;exact⟨z,y,vs,r,ob,es,ep,k _ _ (.inl rfl) e,c⟩
 |dT kvs=>
  obtain⟨z,y,xs,r,ob,es,ep,e,c⟩:=x;exact⟨z,y,xs,Paired.mapP r λp q z=>⟨z.1,ht _ _ z.2.1,z.2.2⟩,ob,es,ep,k _ _ (.inl rfl) e,c⟩
 |set S n=>obtain⟨ob,es,ep,t,e,c⟩:=x;exact⟨ob,es,ep,t,k _ _ (.inl rfl) e,c⟩
 |ins C dx fs=>
  obtain⟨d,z,ne,e,mA,⟨od,es,ep,e2,c⟩,r⟩:=x;exact⟨ho _ d,z,ne,k _ _ (.inl rfl) e,mA,⟨od,es,ep,k _ _ (.inr d) e2,c⟩,r⟩
 |own y=>obtain⟨ob,e⟩:=x;exact⟨ob,k _ _ (.inl rfl) e⟩
 |xd fs=>obtain⟨mA,⟨od,es,ep,e,c⟩,r⟩:=x;exact⟨mA,⟨od,es,ep,k _ _ (.inl rfl) e,c⟩,r⟩
 |rng lo hi=>obtain⟨t,u,v,e⟩:=x;exact⟨t,u,v,k _ _ (.inl rfl) e⟩
 |frz ob u ih=>obtain⟨e,q⟩:=x;exact⟨k _ _ (.inl rfl) e,ih q⟩
 |tbl ps=>
  obtain⟨qs,e,t,c⟩:=x;refine⟨qs,k _ _ (.inl rfl) e,t,λpos cv z => ?_⟩;obtain⟨c',oc,q,u,z1,z2,z3⟩:=c pos cv z;exact⟨c',oc,q,u,z1,hc _ _ _ z2,z3⟩
 |cod q=>
  obtain⟨c,o,vs,t,e,g,r⟩:=x;cases e;exact⟨_,o,vs,t,rfl,k _ _ (.inl rfl) g,r⟩
 |fnc c q=>obtain⟨⟨o,e⟩,oc,r⟩:=x;exact⟨⟨o,k _ _ (.inl rfl) e⟩,oc,hc _ _ _ r⟩
 |met f y=>
  have e:h.get? a=some (PySem.W.methodObj (.ref f) (.ref y)):=x;show h'.get? a=some (PySem.W.methodObj (.ref f) (.ref y));exact k a _ (.inl rfl) e
 |ext φ=>obtain⟨p,⟨o,e⟩,st⟩:=x;exact⟨st _ _ p λo q=>k _ _ (.inl rfl) q,⟨o,k _ _ (.inl rfl) e⟩,st⟩
theorem HOk.lt(x:HOk P w H h)(e:H a=some o):a<h.objs.size:=(x a o e).lt
theorem HOk.fresh(x:HOk P w H h)(e:h.objs.size<=a):H a=none:=by
 cases q:H a with
 |none=>rfl
 |some u=>exact absurd (Nat.lt_of_lt_of_le (x.lt q) e) (Nat.lt_irrefl _)
theorem HOk.kept(x:HOk P w H h)(k:∀b u,h.get? b=some u->h'.get? b=some u):HOk P w H h':=λa o e=>
 (x a o e).stay (λb u _ q=>k b u q) (λ_ q=>q) λ_ _ q=>q
theorem HOk.laid(x:HOk P w H h)(k:∀b u,h.get? b=some u->h'.get? b=some u)(hp:h.objs.size<=a)(new:ObjOk P w (upd H a o) h' a o):HOk P w (upd H a o) h':=λb u e=>by
 have hn:=x.fresh hp
 by_cases hb:b=a
 · subst hb;rw [Yo]at e;cases e;exact new
 · rw [Zx hb]at e
   exact(x b u e).stay (λc v _ q=>k c v q) (λc q=>by rw [Zx (Yy q hn)];exact q) λc xs q=>by rw [Zx (Yy q hn)];exact q
end
def Rd(H:Hp)(a:Addr)(u:HO):Prop:=H a=some u\/∃o,H a=some (.frz o u)
theorem Rd.ok{P:Program}{w:World}{H:Hp}{h:Heap}{a:Addr}{u:HO}(r:Rd H a u)(x:HOk P w H h):ObjOk P w H h a u:=by
 rcases r with r|⟨o,r⟩
 · exact x a u r
 · obtain⟨_,q⟩:=x a _ r
   exact q
def Mut:Option HO->Prop
 |some (.lst _)=>True
 |some (.dK _)=>True
 |some (.dT _)=>True
 |some (.set _ _)=>True
 |some (.ins _ _ _)=>True
 |some (.ext _)=>True
 |_=>False
section
variable{P:Program}{w:World}{H:Hp}{h h':Heap}{x e:Addr}{o':HO}
theorem HOk.write (ok:HOk P w H h) (mu:Mut (H x)) (he:e=x\/H e=some (.own x)) (k:∀b u,b≠e->h.get? b=some u->h'.get? b=some u) (heo:∃u,h'.get? e=some u)
 (new:ObjOk P w (upd H x o') h' x o'):HOk P w (upd H x o') h':=λb u q=>by
 have nown:∀c y,H c=some (.own y)->c≠x:=λc y r z=>by subst z;rw [r]at mu;exact mu
 have ntup:∀c xs,H c=some (.tup xs)->c≠x:=λc xs r z=>by subst z;rw [r]at mu;exact mu
 by_cases hb:b=x
 · subst hb;rw [Yo]at q;cases q;exact new
 · rw [Zx hb]at q
   by_cases hbe:b=e
   · have q' : H b = some (.own x) := by
      rcases he with z|z
      · exact absurd (hbe.trans z) hb
      · rw [hbe];exact z
     rw [q]at q';cases q';obtain⟨v,hv⟩:=heo;exact⟨v,by rw [hbe];exact hv⟩
   · refine(ok b u q).stay (λc v hc r=>k c v ?_ r) (λc r=>by rw [Zx (nown c b r)];exact r) (λc xs r=>by rw [Zx (ntup c xs r)];exact r) (λc ob y r=>by rw [Zx (λz=>by subst z;rw [r]at mu;exact mu)];exact r)
     rcases hc with rfl|hc
     · exact hbe
     · rintro rfl
       rcases he with z|z
       · exact nown c b hc z
       · rw [hc]at z;cases z;exact hb rfl
end
structure Un(fs ex:List Addr)(H H':Hp)(h h':Heap):Prop where
 keep:∀b o,h.get? b=some o->H b=none->b∉fs->b∉ex->h'.get? b=some o
 slot:∀b o,h.get? b=some o->H b=none->b∈fs->b∉ex->∃sl,h'.get? b=some { o with slots:=sl }
 free:∀b o,h.get? b=some o->H b=none->b∉ex->H' b=none
 there:∀b o,h.get? b=some o->b∉ex->∃o',h'.get? b=some o'
 tups:∀b xs,H b=some (.tup xs)->H' b=some (.tup xs)
 frzs:∀b o u,H b=some (.frz o u)->H' b=some (.frz o u)
 tbls:∀b ps,H b=some (.tbl ps)->∃more,H' b=some (.tbl (ps++more))
section
variable{fs fs' ex ex':List Addr}{H H1 H2:Hp}{h h1 h2 h':Heap}{a x e:Addr}{o:HO}
theorem Un.any(u:Un fs ex H H1 h h1){b:Addr}{ob:Obj}(q:h.get? b=some ob)(n:H b=none)(hx:b∉ex):∃sl,h1.get? b=some { ob with slots:=sl }:=by
 by_cases hb:b∈fs
 · exact u.slot b ob q n hb hx
 · exact⟨ob.slots,u.keep b ob q n hb hx⟩
theorem Un.trans(a:Un fs ex H H1 h h1)(b:Un fs ex H1 H2 h1 h2):Un fs ex H H2 h h2 where
 keep:=λc ob q n hc hx=>b.keep c ob (a.keep c ob q n hc hx) (a.free c ob q n hx) hc hx
 slot:=λc ob q n hc hx=>by
  obtain⟨sl,e1⟩:=a.slot c ob q n hc hx;obtain⟨sl',e2⟩:=b.slot c _ e1 (a.free c ob q n hx) hc hx;exact⟨sl',e2⟩
 free:=λc ob q n hx=>by
  obtain⟨o',e1⟩:=a.there c ob q hx;exact b.free c o' e1 (a.free c ob q n hx) hx
 there:=λc ob q hx=>by
  obtain⟨o',e1⟩:=a.there c ob q hx;exact b.there c o' e1 hx
 tups:=λc xs q=>b.tups c xs (a.tups c xs q)
 frzs:=λc ob xs q=>b.frzs c ob xs (a.frzs c ob xs q)
 tbls:=λc ps q=>by
  obtain⟨m1,e1⟩:=a.tbls c ps q;obtain⟨m2,e2⟩:=b.tbls c _ e1;exact⟨m1++m2,by rw [e2,Array.append_assoc]⟩
theorem Un.kept(k:∀b u,h.get? b=some u->h'.get? b=some u):Un fs ex H H h h':=
 ⟨λb ob q _ _ _=>k b ob q,λb ob q _ _ _=>⟨ob.slots,k b ob q⟩,λ_ _ _ n _=>n,λb ob q _=>⟨ob,k b ob q⟩,λ_ _ q=>q,λ_ _ _ q=>q,λ_ ps q=>⟨#[],by rw [q];simp⟩⟩
theorem Un.refl:Un fs ex H H h h:=Un.kept λ_ _ q=>q
theorem Un.laid(k:∀b u,h.get? b=some u->h'.get? b=some u)(hp:h.objs.size<=a)(hn:H a=none):Un fs ex H (upd H a o) h h' where
 keep:=λb u q _ _ _=>k b u q
 slot:=λb u q _ _ _=>⟨u.slots,k b u q⟩
 free:=λb u q n _=>by rw [Zx (Nat.ne_of_lt (Nat.lt_of_lt_of_le (Heap.lt_size q) hp))];exact n
 there:=λb u q _=>⟨u,k b u q⟩
 tups:=λb xs q=>by rw [Zx (Yy q hn)];exact q
 frzs:=λb u xs q=>by rw [Zx (Yy q hn)];exact q
 tbls:=λb ps q=>⟨#[],by rw [Zx (Yy q hn),q];simp⟩
theorem Un.write(mu:Mut (H x))(he:e=x\/H e=some (.own x))(k:∀b u,b≠e->h.get? b=some u->h'.get? b=some u)(heo:∃u,h'.get? e=some u):Un fs ex H (upd H x o) h h':=by
 have hx:∀b,H b=none->b≠x:=λb n z=>by subst z;rw [n]at mu;exact mu
 have hb:∀b,H b=none->b≠e:=λb n z=>by
  subst z;rcases he with r|r
  · exact hx b n r
  · rw [n]at r;cases r
 have hm:∀b u,H b=some u->¬Mut (some u)->b≠x:=λb u q nm z=>by subst z;rw [q]at mu;exact nm mu
 refine⟨λb u q n _ _=>k b u (hb b n) q,λb u q n _ _=>⟨u.slots,k b u (hb b n) q⟩,λb u q n _=>by rw [Zx (hx b n)];exact n,λb u q _ => ?_,
  λb xs q=>by rw [Zx (hm b _ q λz=>z)];exact q,λb u xs q=>by rw [Zx (hm b _ q λz=>z)];exact q,λb ps q=>⟨#[],by rw [Zx (hm b _ q λz=>z),q];simp⟩⟩
 by_cases hbe:b=e
 · subst hbe;exact heo
 · exact⟨u,k b u hbe q⟩
end
def trk(h:Heap)(H:Hp):List Addr:=(List.range h.objs.size).filter λa=>(H a).isSome
def Uc(h:Heap)(H:Hp):Heap:=PySem.W.hideAll h (trk h H)
theorem ZeI(h:Heap)(H:Hp):(Uc h H).objs.size=h.objs.size:=PySem.W.hideAll_size _ _
theorem Zfw{h:Heap}{H:Hp}{b:Addr}{o:Obj}(e:h.get? b=some o)(n:H b=none):(Uc h H).get? b=some o:=
 PySem.W.hideAll_get _ e λhm=>by
  have q:(H b).isSome=true:=(List.mem_filter.mp hm).2;rw [n]at q;simp at q
theorem ZgX{h:Heap}{H:Hp}{b:Addr}{o:Obj}(e:(Uc h H).get? b=some o):h.get? b=some o/\H b=none:=by
 have e':h.get? b=some o:=PySem.W.of_hideAll (trk h H) e;refine⟨e',?_⟩;cases q:H b with
 |none=>rfl
 |some x=>
  have hm:b∈trk h H:=List.mem_filter.mpr ⟨List.mem_range.mpr (Heap.lt_size e'),by simp [q]⟩;have z:(Uc h H).get? b=none:=PySem.W.hideAll_none (trk h H) hm;rw [z]at e;cases e
end L2
namespace L2
open PySem PySem.Spec PyProof.Rows
structure Mod(K:PySem.W.Frag)(mg:Str->Option Value)(base:Heap):Prop where
 kin:K.In base
 glob:base.Ns mainGlobals mg
 blt:∃mb,base.Ns builtinsNs mb/\∀x:Str,x ≠ "__name__" -> mb x=bootBuiltins x
 nolimit:base.NoLimit
structure Cx where
 prog:Program
 w:World
 K:PySem.W.Frag
 mg:Str->Option Value
 base:Heap
 A:Around
 N:List Str
 s₀:Shared
 H₀:Hp
 env:Env
 outer:List Env
 stack:List Env
 ex:List Addr
 fn:Str->Bool
 calm:Bool
 pn:List (Addr×Obj)
 xe:Value->Shared->Prop
 fz:List (Addr×Obj×Str):=[]
def frs(l:List Env):List Addr:=l.filterMap (·.frame)
abbrev Cx.fs(X:Cx):List Addr:=frs X.outer
def Vis(sc:Scope)(x:Str):Prop:=sc.names.lookup x=some .local\/sc.names.lookup x=some .cell\/sc.names.lookup x=some .free
def Loc(sc:Scope)(x:Str):Prop:=sc.names.lookup x=some .local\/sc.names.lookup x=some .cell
def ZlN(env:Env)(h:Heap)(m:Str->Option Value)(x:Str)(u:Value):Prop:=
 (env.kindOf x=some .local/\m x=some u)\/((env.kindOf x=some .cell\/env.kindOf x=some .free)/\∃c,env.cells.lookup x=some c/\h.IsCell c (some u))
def Xe(K:PySem.W.Frag):List (Addr×Str):=K.filterMap λp=>match p.2.cls,p.2.dict with
 | .str q _,some P=>some (P,q)
 |_,_=>none
def Zd1(K:PySem.W.Frag)(H:Hp):Prop:=∀q∈Xe K,∃more,H q.1=some (.tbl (#[.str q.2 0]++more))
structure Cx.Ok(X:Cx):Prop where
 mod:Mod X.K X.mg X.base
 kind:X.env.scope.kind = .function
 glob:X.env.globals=mainGlobals
 blt:X.env.builtins=builtinsNs
 above:X.s₀.heap.objs.size<=X.env.locals
 inj:∀x y c,X.env.cells.lookup x=some c->X.env.cells.lookup y=some c->x=y
 has:∀x,(X.env.kindOf x=some .cell\/X.env.kindOf x=some .free)->∃c,X.env.cells.lookup x=some c
 cab:∀x c,X.fn x=true->X.env.cells.lookup x=some c->X.s₀.heap.objs.size<=c
 hd:X.calm=true->X.A.handled=none
 frames:X.A.frames=some X.stack
 stk:X.stack=X.outer\/(X.stack=X.env::X.outer/\X.env.frame=some X.env.locals)
 exf:∀b∈X.ex,b≠X.env.locals/\∀x c,X.env.cells.lookup x=some c->c≠b
 bs:∀b o,X.base.get? b=some o->X.s₀.heap.get? b=some o/\X.H₀ b=none
 bsz:X.base.objs.size<=X.s₀.heap.objs.size
 noex:∀b o,X.base.get? b=some o->b∉X.ex
 exfs:∀b∈X.ex,b∉X.fs
 funs:X.s₀.heap.FunFrames X.base X.outer
 frf:∀b∈X.fs,X.H₀ b=none
 tb:Zd1 X.K X.H₀
structure Inv(X:Cx)(pins:List (Addr×Obj))(σ:List (Option V))(H:Hp)(s:Shared):Prop where
 ok:X.Ok
 os:s.os=X.s₀.os
 bare:AllBare s.gens
 base:Un X.fs X.ex X.H₀ H X.s₀.heap s.heap
 loc:∃m,s.heap.Ns X.env.locals m/\∀(i:Nat)(x:Str)(v:V),X.N[i]? = some x->σ[i]? = some (some v)->Vis X.env.scope x->∃u,RelV v u/\ZlN X.env s.heap m x u
 cell:∀x c,X.env.cells.lookup x=some c->∃v,s.heap.IsCell c v
 free:H X.env.locals=none
 freeC:∀x c,X.env.cells.lookup x=some c->H c=none
 pin:∀p∈X.pn++pins,s.heap.get? p.1=some p.2/\H p.1=none/\p.1≠X.env.locals/\p.1∉X.fs/\∀v,p.2.data ≠ .cell v
 hok:HOk X.prog X.w H s.heap
 len:σ.length=X.N.length
 fzs:∀q∈X.fz,H q.1=some (.frz q.2.1 (.cod q.2.2))
section
variable{X:Cx}{pins:List (Addr×Obj)}{σ:List (Option V)}{H H':Hp}{s:Shared}{h':Heap}
theorem Cx.Ok.nofr(ok:X.Ok){b:Addr}{o:Obj}(e:X.base.get? b=some o):b∉X.fs:=λhb=>by
 have:=(ok.funs.mem hb).1;rw [e]at this;cases this
theorem Inv.bs(I:Inv X pins σ H s):∀b o,X.base.get? b=some o->s.heap.get? b=some o/\H b=none:=λb o e=>
 ⟨I.base.keep b o (I.ok.bs b o e).1 (I.ok.bs b o e).2 (I.ok.nofr e) (I.ok.noex b o e),I.base.free b o (I.ok.bs b o e).1 (I.ok.bs b o e).2 (I.ok.noex b o e)⟩
theorem Inv.bk(I:Inv X pins σ H s):∀b o,X.base.get? b=some o->s.heap.get? b=some o:=λb o e=>(I.bs b o e).1
theorem Inv.mod(I:Inv X pins σ H s):Mod X.K X.mg X.base:=I.ok.mod
theorem Inv.kIn(I:Inv X pins σ H s):X.K.In s.heap:=I.ok.mod.kin.keeps I.bk
theorem Inv.nolimit(I:Inv X pins σ H s):s.heap.NoLimit:=I.ok.mod.nolimit.keeps I.bk
theorem Inv.fr(I:Inv X pins σ H s):∃m,Fr X.base X.env.locals s.heap m:=
 let⟨m,hn,_⟩:=I.loc
 ⟨m,hn,I.bk,Nat.le_trans I.ok.bsz I.ok.above⟩
theorem Inv.lt(I:Inv X pins σ H s):X.env.locals<s.heap.objs.size:=let⟨_,hn,_⟩:=I.loc;hn.lt
theorem Inv.sz(I:Inv X pins σ H s):X.s₀.heap.objs.size<=s.heap.objs.size:=Nat.le_trans I.ok.above (Nat.le_of_lt I.lt)
theorem Inv.nofs(I:Inv X pins σ H s){a:Addr}(h:s.heap.objs.size<=a):a∉X.fs:=λhb=>by
 obtain⟨_,o,ho,_⟩:=I.ok.funs.mem hb;exact absurd (Nat.lt_of_lt_of_le (Heap.lt_size ho) (Nat.le_trans I.sz h)) (Nat.lt_irrefl _)
theorem Inv.cne(I:Inv X pins σ H s):∀x c,X.env.cells.lookup x=some c->c≠X.env.locals:=λx c e z=>by
 obtain⟨v,o,ho,hd⟩:=I.cell x c e;obtain⟨m,⟨o',es,ep,ho',hd',_⟩,_⟩:=I.loc;rw [z,ho']at ho;cases ho;rw [hd']at hd;cases hd
theorem Inv.funs(I:Inv X pins σ H s):s.heap.FunFrames X.base X.outer:=by
 have all:∀(l:List Env),(∀b∈frs l,b∈X.fs)->X.s₀.heap.FunFrames X.base l->s.heap.FunFrames X.base l:=by
  intro l
  induction l with
  |nil=>intro _ _;trivial
  |cons env r ih=>
   intro hs hl;obtain⟨hk,⟨L,o,hf,hn,ho,hd⟩,hr⟩:=hl;have hL:L∈X.fs:=hs L (by unfold frs;rw [List.filterMap_cons,hf];exact List.mem_cons_self);obtain⟨sl,e⟩:=I.base.slot L o ho (I.ok.frf L hL) hL λz=>I.ok.exfs L z hL
   exact⟨hk,⟨L,_,hf,hn,e,hd⟩,ih (λb hb=>hs b (by unfold frs;rw [List.filterMap_cons,hf];exact List.mem_cons_of_mem _ hb)) hr⟩
 exact all X.outer (λ_ hb=>hb) I.ok.funs
theorem Inv.stack(I:Inv X pins σ H s):s.heap.FunFrames X.base X.stack:=by
 rcases I.ok.stk with e|⟨e,hf⟩
 · rw [e];exact I.funs
 · rw [e]
   obtain⟨m,hn,_⟩:=I.loc;refine .cons (by rw [I.ok.kind];decide) hf hn ?_ I.funs;exact Heap.get?_none_of_le (Nat.le_trans I.ok.bsz I.ok.above)
theorem Inv.stkSub(I:Inv X pins σ H s):∀b∈frs X.stack,b∈X.env.locals::X.fs:=λb hb=>by
 rcases I.ok.stk with e|⟨e,hf⟩
 · rw [e]at hb;exact List.mem_cons_of_mem _ hb
 · rw [e]at hb
   unfold frs at hb;rw [List.filterMap_cons,hf]at hb;exact hb
theorem Inv.stkFree(I:Inv X pins σ H s):∀b∈frs X.stack,H b=none:=λb hb=>by
 rcases List.mem_cons.mp (I.stkSub b hb)with e|hb
 · rw [e];exact I.free
 · obtain⟨_,o,ho,_⟩:=I.ok.funs.mem hb
   exact I.base.free b o ho (I.ok.frf b hb) λz=>I.ok.exfs b z hb
theorem Inv.step {g':Array GenState} {t':Nat} {d':Drawn} {ch:List Addr} (I:Inv X pins σ H s)
 (hch:∀b∈ch,(b∈X.ex\/X.s₀.heap.objs.size<=b)/\b≠X.env.locals/\(∀x c,X.env.cells.lookup x=some c->c≠b)/\∀p∈X.pn++pins,p.1≠b)
 (keep:∀b o,b≠X.env.locals->b∉X.fs->b∉ch->s.heap.get? b=some o->H b=none->h'.get? b=some o)
 (slot:∀b o,b≠X.env.locals->b∈X.fs->b∉ch->s.heap.get? b=some o->H b=none->∃sl,h'.get? b=some { o with slots:=sl }) (free:∀b o,b∉ch->s.heap.get? b=some o->H b=none->H' b=none)
 (there:∀b o,b∉ch->s.heap.get? b=some o->∃o',h'.get? b=some o')
 (tups:∀b xs,H b=some (.tup xs)->H' b=some (.tup xs)) (frzs:∀b o u,H b=some (.frz o u)->H' b=some (.frz o u)) (tbls:∀b ps,H b=some (.tbl ps)->∃more,H' b=some (.tbl (ps++more)))
 (ns:∀m,s.heap.Ns X.env.locals m->h'.Ns X.env.locals m) (hok:HOk X.prog X.w H' h') (hg:AllBare g') :
 Inv X pins σ H' { s with heap:=h',gens:=g',drawn:=d',toks:=t' }:=by
 have neL:∀b o,X.s₀.heap.get? b=some o->b≠X.env.locals:=λb o e=>Nat.ne_of_lt (Nat.lt_of_lt_of_le (Heap.lt_size e) I.ok.above)
 have neC:∀b o,X.s₀.heap.get? b=some o->b∉X.ex->b∉ch:=λb o e hx hb=>by
  rcases(hch b hb).1 with z|z
  · exact hx z
  · exact absurd (Nat.lt_of_lt_of_le (Heap.lt_size e) z) (Nat.lt_irrefl _)
 have cellK:∀x c,X.env.cells.lookup x=some c->∀v,s.heap.IsCell c v->h'.IsCell c v:=λx c e v ⟨o,ho,hd⟩=>by
  have nch:c∉ch:=λz=>(hch c z).2.2.1 x c e rfl
  by_cases hc:c∈X.fs
  · obtain⟨sl,q⟩:=slot c o (I.cne x c e) hc nch ho (I.freeC x c e)
    exact⟨_,q,hd⟩
  · exact⟨o,keep c o (I.cne x c e) hc nch ho (I.freeC x c e),hd⟩
 refine⟨I.ok,I.os,hg,⟨λb o e n hb hx => ?_,λb o e n hb hx => ?_,λb o e n hx => ?_,λb o e hx => ?_,λb xs e=>tups b xs (I.base.tups b xs e),λb o xs e=>frzs b o xs (I.base.frzs b o xs e),λb ps e => ?_⟩,?_,λx c e => ?_,?_,λx c e => ?_,λp hp => ?_,hok,I.len,λq hq=>frzs _ _ _ (I.fzs q hq)⟩
 · exact keep b o (neL b o e) hb (neC b o e hx) (I.base.keep b o e n hb hx) (I.base.free b o e n hx)
 · obtain⟨sl,e1⟩:=I.base.slot b o e n hb hx
   obtain⟨sl',e2⟩:=slot b _ (neL b o e) hb (neC b o e hx) e1 (I.base.free b o e n hx);exact⟨sl',e2⟩
 · obtain⟨o',e1⟩:=I.base.there b o e hx
   exact free b o' (neC b o e hx) e1 (I.base.free b o e n hx)
 · obtain⟨o',e1⟩:=I.base.there b o e hx
   exact there b o' (neC b o e hx) e1
 · obtain⟨m1,e1⟩:=I.base.tbls b ps e
   obtain⟨m2,e2⟩:=tbls b _ e1;exact⟨m1++m2,by rw [e2,Array.append_assoc]⟩
 · obtain⟨m,hn,hl⟩:=I.loc
   refine⟨m,ns m hn,λi x v e1 e2 e3 => ?_⟩;obtain⟨u,r,l⟩:=hl i x v e1 e2 e3;refine⟨u,r,?_⟩;rcases l with l|⟨k,c,e,z⟩
   · exact .inl l
   · exact .inr ⟨k,c,e,cellK x c e _ z⟩
 · obtain⟨v,z⟩:=I.cell x c e
   exact⟨v,cellK x c e v z⟩
 · obtain⟨m,⟨o,_,_,ho,_⟩,_⟩:=I.loc
   exact free _ o (λz=>(hch _ z).2.1 rfl) ho I.free
 · obtain⟨v,o,ho,hd⟩:=I.cell x c e
   exact free c o (λz=>(hch c z).2.2.1 x c e rfl) ho (I.freeC x c e)
 · obtain⟨e,n,ne,nf,d⟩:=I.pin p hp
   have nch:p.1∉ch:=λz=>(hch p.1 z).2.2.2 p hp rfl
   exact⟨keep p.1 p.2 ne nf nch e n,free p.1 p.2 nch e n,ne,nf,d⟩
theorem Inv.un{t':Nat}(I:Inv X pins σ H s)(u:Un X.fs [] H H' s.heap h')(hok:HOk X.prog X.w H' h'):Inv X pins σ H' { s with heap:=h',toks:=t' }:=by
 obtain⟨m,⟨o,es,ep,ho,r⟩,_⟩:=id I.loc;obtain⟨sl,hL⟩:=u.any ho I.free (by simp)
 exact I.step (g':=s.gens) (d':=s.drawn) (ch:=[]) (λ_ z=>nomatch z) (λb o _ hb _ e n=>u.keep b o e n hb (by simp)) (λb o _ hb _ e n=>u.slot b o e n hb (by simp)) (λb o _ e n=>u.free b o e n (by simp)) (λb o _ e=>u.there b o e (by simp)) u.tups u.frzs u.tbls (λm' hm=>by
  obtain⟨o',es',ep',ho',r'⟩:=hm;rw [ho]at ho';cases ho';exact⟨_,es',ep',hL,r'⟩) hok I.bare
theorem Inv.call {g':Array GenState} {t':Nat} {d':Drawn} {ch:List Addr} (I:Inv X pins σ H s) (u:Un (frs X.stack) ch H H' s.heap h') (hok:HOk X.prog X.w H' h') (hg:AllBare g')
 (hch:∀b∈ch,(b∈X.ex\/X.s₀.heap.objs.size<=b)/\b≠X.env.locals/\(∀x c,X.env.cells.lookup x=some c->c≠b)/\∀p∈X.pn++pins,p.1≠b) :
 Inv X pins σ H' { s with heap:=h',gens:=g',drawn:=d',toks:=t' }:=by
 obtain⟨m,⟨o,es,ep,ho,r⟩,_⟩:=id I.loc;obtain⟨sl,hL⟩:=u.any ho I.free λz=>(hch _ z).2.1 rfl
 exact I.step (ch:=ch) hch (λb o hL hb hc e n=>u.keep b o e n (λz=>(List.mem_cons.mp (I.stkSub b z)).elim hL hb) hc) (λb o _ _ hc e n=>u.any e n hc) (λb o hc e n=>u.free b o e n hc) (λb o hc e=>u.there b o e hc) u.tups u.frzs u.tbls (λm' hm=>by
  obtain⟨o',es',ep',ho',r'⟩:=hm;rw [ho]at ho';cases ho';exact⟨_,es',ep',hL,r'⟩) hok hg
theorem Inv.turned {t':Nat} {it:Addr} (I:Inv X pins σ H s) (k:∀b o,b≠it->s.heap.get? b=some o->h'.get? b=some o) (hn:H it=none) (hL:it≠X.env.locals)
 (h1:it∈X.ex\/X.s₀.heap.objs.size<=it) (h2:∀x c,X.env.cells.lookup x=some c->c≠it) (h3:∀p∈X.pn++pins,p.1≠it):Inv X pins σ H { s with heap:=h',toks:=t' }:=by
 have nit:∀b u,H b=some u->b≠it:=λb u e z=>by rw [z,hn]at e;cases e
 refine I.step (g':=s.gens) (d':=s.drawn) (ch:=[it]) (λb hb => ?_) (λb o _ _ hc e _=>k b o (λz=>hc (by simp [z])) e) (λb o _ _ hc e _=>⟨o.slots,k b o (λz=>hc (by simp [z])) e⟩) (λ_ _ _ _ n=>n)
  (λb o hc e=>⟨o,k b o (λz=>hc (by simp [z])) e⟩) (λ_ _ e=>e) (λ_ _ _ e=>e) (λb ps e=>⟨#[],by rw [e];simp⟩) (λm hm => ?_) (λb u e => ?_) I.bare
 · have e:b=it:=by simpa using hb
   subst e;exact⟨h1,hL,h2,h3⟩
 · obtain⟨o,es,ep,ho,r⟩:=hm
   exact⟨o,es,ep,k _ o (Ne.symm hL) ho,r⟩
 · refine(I.hok b u e).stay (λc v hc q=>k c v ?_ q) (λ_ q=>q) λ_ _ q=>q
   rcases hc with z|z
   · rw [z];exact nit b u e
   · exact nit c _ z
theorem Inv.tok(I:Inv X pins σ H s)(t:Nat):Inv X pins σ H { s with toks:=t }:=I.un (h':=s.heap) (t':=t) Un.refl I.hok
theorem Inv.kept{t':Nat}(I:Inv X pins σ H s)(k:∀b u,s.heap.get? b=some u->h'.get? b=some u):Inv X pins σ H { s with heap:=h',toks:=t' }:=I.un (Un.kept k) (I.hok.kept k)
theorem Inv.laid{a:Addr}{o:HO}{t':Nat}(I:Inv X pins σ H s)(k:∀b u,s.heap.get? b=some u->h'.get? b=some u)(hp:s.heap.objs.size<=a)(new:ObjOk X.prog X.w (upd H a o) h' a o) :
 Inv X pins σ (upd H a o) { s with heap:=h',toks:=t' }:=I.un (Un.laid k hp (I.hok.fresh hp)) (I.hok.laid k hp new)
theorem Inv.write {x e:Addr} {o:HO} {t':Nat} (I:Inv X pins σ H s) (mu:Mut (H x)) (he:e=x\/H e=some (.own x)) (k:∀b u,b≠e->s.heap.get? b=some u->h'.get? b=some u) (heo:∃u,h'.get? e=some u)
 (new:ObjOk X.prog X.w (upd H x o) h' x o):Inv X pins σ (upd H x o) { s with heap:=h',toks:=t' }:=I.un (Un.write mu he k heo) (I.hok.write mu he k heo new)
theorem Inv.pins_of{pins':List (Addr×Obj)}(I:Inv X pins σ H s)(h:∀p∈pins',s.heap.get? p.1=some p.2/\H p.1=none/\p.1≠X.env.locals/\p.1∉X.fs/\∀v,p.2.data ≠ .cell v):Inv X pins' σ H s:=
 ⟨I.ok,I.os,I.bare,I.base,I.loc,I.cell,I.free,I.freeC,λp hp=>(List.mem_append.mp hp).elim (λz=>I.pin p (List.mem_append_left _ z)) (h p),I.hok,I.len,I.fzs⟩
theorem Zc5{N:List Str}(hN:N.Nodup){i j:Nat}{x:Str}(a:N[i]? = some x)(b:N[j]? = some x):i=j:=by
 obtain⟨h1,e1⟩:=List.getElem?_eq_some_iff.mp a;obtain⟨h2,e2⟩:=List.getElem?_eq_some_iff.mp b;exact(List.getElem_inj hN).mp (e1.trans e2.symm)
theorem ZbZ {M:Model} {A:Around} {E:Value->Shared->Prop} {i:Nat} {x:Str} {v:V} {u:Value} {Q:Unit->Shared->Prop} (I:Inv X pins σ H s) (hN:X.N.Nodup) (hi:X.N[i]? = some x) (hx:Loc X.env.scope x) (r:RelV v u)
 (h:∀s',Inv X pins (σ.set i (some v)) H s'->(∃a,Heap.SameBut a s.heap s'.heap/\(a=X.env.locals\/X.env.cells.lookup x=some a))->Q () s') (hf:X.fn x=true\/X.env.scope.names.lookup x=some .local:=by first|exact .inl rfl|exact .inr rfl|assumption):wpAny M A (storeName X.env x u) Q E s:=by
 obtain⟨m,hn,hl⟩:=id I.loc;have hcls:(X.env.scope.kind == .class||(X.env.scope.kind == .module&&X.env.locals != X.env.globals))=false:=by rw [I.ok.kind];rfl
 have hiσ:i<σ.length:=by rw [I.len];exact(List.getElem?_eq_some_iff.mp hi).1
 have cne:=I.cne
 have tracked:∀{a:Addr}{h':Heap},(∃o,s.heap.get? a=some o/\H a=none)->Heap.SameBut a s.heap h'->HOk X.prog X.w H h':=λ{a h'} ha hs b ob e=>by
  obtain⟨_,_,hfree⟩:=ha;refine(I.hok b ob e).stay (λc w' hc q=>(hs.2 c ?_).trans q) (λ_ q=>q) λ_ _ q=>q
  rintro rfl
  rcases hc with rfl|hc
  · rw [hfree]at e;cases e
  · rw [hfree]at hc;cases hc
 rcases hx with hk|hk
 · refine wpAny_storeName_local hk hn (λh' hn' hs => ?_) hcls
   obtain⟨oL,_,_,hoL,_⟩:=id hn;refine h _ ⟨I.ok,I.os,I.bare,⟨λb o e n hb hx => ?_,λb o e n hb hx => ?_,I.base.free,λb o e hx => ?_,I.base.tups,I.base.frzs,I.base.tbls⟩,⟨_,hn',λj y v' e1 e2 e3 => ?_⟩,λy c e => ?_,I.free,I.freeC,λp hp => ?_,tracked ⟨oL,hoL,I.free⟩ hs,by simpa using I.len,I.fzs⟩ ⟨_,hs,.inl rfl⟩
   · exact(hs.2 b (Nat.ne_of_lt (Nat.lt_of_lt_of_le (Heap.lt_size e) I.ok.above))).trans (I.base.keep b o e n hb hx)
   · obtain⟨sl,e1⟩:=I.base.slot b o e n hb hx
     exact⟨sl,(hs.2 b (Nat.ne_of_lt (Nat.lt_of_lt_of_le (Heap.lt_size e) I.ok.above))).trans e1⟩
   · obtain⟨o',e1⟩:=I.base.there b o e hx
     exact⟨o',(hs.2 b (Nat.ne_of_lt (Nat.lt_of_lt_of_le (Heap.lt_size e) I.ok.above))).trans e1⟩
   · by_cases hj:j=i
     · subst hj
       rw [hi]at e1;cases e1;rw [List.getElem?_set_self hiσ]at e2;cases e2;exact⟨u,r,.inl ⟨hk,by simp⟩⟩
     · rw [List.getElem?_set_ne (Ne.symm hj)]at e2
       obtain⟨u',r',q⟩:=hl j y v' e1 e2 e3;refine⟨u',r',?_⟩;rcases q with⟨k,e⟩|⟨k,c,e,z⟩
       · refine .inl ⟨k,?_⟩
         have:y≠x:=λe=>hj (Zc5 hN e1 (e▸hi))
         simp [this,e]
       · exact .inr ⟨k,c,e,z.sameBut hs (cne y c e)⟩
   · obtain⟨w',z⟩:=I.cell y c e
     exact⟨w',z.sameBut hs (cne y c e)⟩
   · obtain⟨e,n,ne,nf,d⟩:=I.pin p hp
     exact⟨(hs.2 p.1 ne).trans e,n,ne,nf,d⟩
 · have hfn : X.fn x = true := by
    rcases hf with z|z
    · exact z
    · rw [z]at hk;cases hk
   obtain⟨c,hc⟩:=I.ok.has x (.inl hk);obtain⟨w',z⟩:=I.cell x c hc;refine wpAny_storeName_cell I.ok.kind hk hc z (λh' hc' hs => ?_);obtain⟨oc,hoc,hocd⟩:=id z;refine h { s with heap:=h' } ⟨I.ok,I.os,I.bare,⟨λb o e n hb hx => ?_,λb o e n hb hx => ?_,I.base.free,λb o e hx => ?_,I.base.tups,I.base.frzs,I.base.tbls⟩,⟨m,hn.sameBut hs (Ne.symm (cne x c hc)),λj y v' e1 e2 e3 => ?_⟩,λy c' e => ?_,I.free,I.freeC,λp hp => ?_,tracked ⟨oc,hoc,I.freeC x c hc⟩ hs,by simpa using I.len,I.fzs⟩ ⟨c,hs,.inr hc⟩
   · exact(hs.2 b (Nat.ne_of_lt (Nat.lt_of_lt_of_le (Heap.lt_size e) (I.ok.cab x c hfn hc)))).trans (I.base.keep b o e n hb hx)
   · obtain⟨sl,e1⟩:=I.base.slot b o e n hb hx
     exact⟨sl,(hs.2 b (Nat.ne_of_lt (Nat.lt_of_lt_of_le (Heap.lt_size e) (I.ok.cab x c hfn hc)))).trans e1⟩
   · obtain⟨o',e1⟩:=I.base.there b o e hx
     exact⟨o',(hs.2 b (Nat.ne_of_lt (Nat.lt_of_lt_of_le (Heap.lt_size e) (I.ok.cab x c hfn hc)))).trans e1⟩
   · by_cases hj:j=i
     · subst hj
       rw [hi]at e1;cases e1;rw [List.getElem?_set_self hiσ]at e2;cases e2;exact⟨u,r,.inr ⟨.inl hk,c,hc,hc'⟩⟩
     · rw [List.getElem?_set_ne (Ne.symm hj)]at e2
       obtain⟨u',r',q⟩:=hl j y v' e1 e2 e3;refine⟨u',r',?_⟩;rcases q with q|⟨k,c',e,z'⟩
       · exact .inl q
       · refine .inr ⟨k,c',e,z'.sameBut hs ?_⟩
         rintro rfl
         exact hj (Zc5 hN e1 (I.ok.inj _ _ _ e hc▸hi))
   · by_cases hcc:c'=c
     · subst hcc;exact⟨_,hc'⟩
     · obtain⟨w2,z2⟩:=I.cell y c' e
       exact⟨w2,z2.sameBut hs hcc⟩
   · obtain⟨e,n,ne,nf,d⟩:=I.pin p hp
     refine⟨(hs.2 p.1 ?_).trans e,n,ne,nf,d⟩;intro q;rw [q,hoc]at e;have q':oc=p.2:=Option.some.inj e;exact d w' (by rw [<-q'];exact hocd)
theorem Zc6 {M:Model} {A:Around} {E:Value->Shared->Prop} {i:Nat} {x:Str} {v:V} {u:Value} {Q:Unit->Shared->Prop} (I:Inv X pins σ H s) (hN:X.N.Nodup) (hi:X.N[i]? = some x) (hx:Loc X.env.scope x) (r:RelV v u)
 (h:∀s',Inv X pins (σ.set i (some v)) H s'->Q () s') (hf:X.fn x=true\/X.env.scope.names.lookup x=some .local:=by first|exact .inl rfl|exact .inr rfl|assumption):wpAny M A (storeName X.env x u) Q E s:=
 ZbZ I hN hi hx r (λs' I' _=>h s' I') hf
theorem Inv.call' {s':Shared} {ch:List Addr} (I:Inv X pins σ H s) (ho:s'.os=s.os) (u:Un (frs X.stack) ch H H' s.heap s'.heap) (hok:HOk X.prog X.w H' s'.heap) (hg:AllBare s'.gens)
 (hch:∀b∈ch,(b∈X.ex\/X.s₀.heap.objs.size<=b)/\b≠X.env.locals/\(∀x c,X.env.cells.lookup x=some c->c≠b)/\∀p∈X.pn++pins,p.1≠b):Inv X pins σ H' s':=by
 obtain⟨h',g',d',t',o'⟩:=s';have e:o'=s.os:=ho;subst e;exact I.call (g':=g') (t':=t') (d':=d') u hok hg hch
end
abbrev XK:=Value->Option Addr->Hp->Prop
abbrev St:=List (Option V)
abbrev VK:=V->Hp->Prop
abbrev TE:=St->Hp->VK->Prop
abbrev TT:=St->Hp->(Bool->Hp->Prop)->Prop
abbrev TA:=St->Hp->(List V->Hp->Prop)->Prop
structure Ends where
 nx:St->Hp->Prop
 rt:VK
 bk:St->Hp->Prop:=λ_ _=>False
 ct:St->Hp->Prop:=λ_ _=>False
abbrev TS:=Ends->St->Hp->Prop
def EP(X:Cx)(pins:List (Addr×Obj))(σ:St)(Q:VK)(u:Value)(s':Shared):Prop:=∃v H',Inv X pins σ H' s'/\RelV v u/\Q v H'
def TP(X:Cx)(pins:List (Addr×Obj))(σ:St)(Q:Bool->Hp->Prop)(b:Bool)(s':Shared):Prop:=∃H',Inv X pins σ H' s'/\Q b H'
def AP(X:Cx)(pins:List (Addr×Obj))(σ:St)(Q:List V->Hp->Prop)(us:List Value)(s':Shared):Prop:=∃vs H',Inv X pins σ H' s'/\Vals vs us/\Q vs H'
def SP(X:Cx)(pins:List (Addr×Obj))(D:Ends)(f:Flow)(s':Shared):Prop:=
 match f with
 | .next=>∃σ' H',Inv X pins σ' H' s'/\D.nx σ' H'
 | .brk=>∃σ' H',Inv X pins σ' H' s'/\D.bk σ' H'
 | .cont=>∃σ' H',Inv X pins σ' H' s'/\D.ct σ' H'
 | .ret u=>∃v σ' H',Inv X pins σ' H' s'/\RelV v u/\D.rt v H'
def PE(X:Cx)(e:Expr)(t:TE):Prop:=
 ∀(pins:List (Addr×Obj))(s:Shared)(σ:St)(H:Hp)(Q:VK),Inv X pins σ H s->t σ H Q->wpAny (model X.prog X.w) X.A (eval e X.env) (EP X pins σ Q) X.xe s
def PT(X:Cx)(e:Expr)(t:TT):Prop:=
 ∀(pins:List (Addr×Obj))(s:Shared)(σ:St)(H:Hp)(Q:Bool->Hp->Prop),Inv X pins σ H s->t σ H Q->wpAny (model X.prog X.w) X.A (isTrue e X.env (eval e X.env)) (TP X pins σ Q) X.xe s
def PW(X:Cx)(e:Expr)(t:TT):Prop:=
 ∀(whole:Sem Value)(pins:List (Addr×Obj))(s:Shared)(σ:St)(H:Hp)(Q:Bool->Hp->Prop),Inv X pins σ H s->t σ H Q->wpAny (model X.prog X.w) X.A (isTrue e X.env whole) (TP X pins σ Q) X.xe s
theorem PW.pt{X:Cx}{e:Expr}{t:TT}(h:PW X e t):PT X e t:=h _
def PA(X:Cx)(es:List Expr)(t:TA):Prop:=
 ∀(pos:Pos)(pins:List (Addr×Obj))(s:Shared)(σ:St)(H:Hp)(Q:List V->Hp->Prop),Inv X pins σ H s->t σ H Q->wpAny (model X.prog X.w) X.A (spliced (backTo pos (starEach es X.env))) (AP X pins σ Q) X.xe s
def PS(X:Cx)(st:Stmt)(t:TS):Prop:=
 ∀(pins:List (Addr×Obj))(s:Shared)(σ:St)(H:Hp)(D:Ends),Inv X pins σ H s->t D σ H->wpAny (model X.prog X.w) X.A (exec st X.env) (SP X pins D) X.xe s
def PSs(X:Cx)(st:List Stmt)(t:TS):Prop:=
 ∀(pins:List (Addr×Obj))(s:Shared)(σ:St)(H:Hp)(D:Ends),Inv X pins σ H s->t D σ H->wpAny (model X.prog X.w) X.A (execs st X.env) (SP X pins D) X.xe s
theorem thn{α:Type}{t:Sem α}{Q Q':α->Shared->Prop}{M:Model}{A:Around}{E:Value->Shared->Prop}{s:Shared}(h:wpAny M A t Q E s)(hQ:∀a s,Q a s->Q' a s):wpAny M A t Q' E s:=wpAny_mono h hQ λ_ _ x=>x
end L2
namespace L2
open PySem PySem.Spec PyProof.Rows
section
variable{X:Cx}
def Uu(i:Nat):TE:=λσ H Q=>∃v,σ[i]? = some (some v)/\Q v H
def tC(v:V):TE:=λ_ H Q=>Q v H
theorem Zd2 {i:Nat} {x:Str} {pos:Pos} (hN:X.N[i]? = some x) (hv:Vis X.env.scope x) (hd:(x == ("__debug__" : Str))=false:=by decide) (hcd:(x == ("__classdict__" : Str))=false:=by decide):PE X (.Name x pos) (Uu i):=by
 intro pins s σ H Q I h;obtain⟨v,e,h⟩:=h;obtain⟨m,hn,hl⟩:=I.loc;obtain⟨u,r,l⟩:=hl i x v hN e hv;have fin:EP X pins σ Q u s:=⟨v,H,I,r,h⟩
 rcases l with⟨hk,hm⟩|⟨hk,c,hc,hcell⟩
 · exact wpAny_Name (wpAny_loadName_local I.ok.kind hk hn hm fin) hd
 · rcases hk with hk|hk
   · exact wpAny_Name (wpAny_loadName_cell I.ok.kind hk hc hcell fin) hd
   · exact wpAny_Name (wpAny_loadName_free I.ok.kind hk hc hcell fin hcd) hd
theorem Zl{i j pos}:PE X (.Constant (.int i) j pos) (tC (.int i)):=λ_ _ _ H _ I h=>wpAny_Constant_int ⟨.int i,H,I.tok _,⟨_,rfl⟩,h⟩
theorem VR{b j pos}:PE X (.Constant (.bool b) j pos) (tC (.bl b)):=λ_ _ _ H _ I h=>Constant_bool ⟨.bl b,H,I,rfl,h⟩
theorem XA{j pos}:PE X (.Constant .none j pos) (tC .non):=λ_ _ _ H _ I h=>Constant_none ⟨.non,H,I,rfl,h⟩
theorem Zil{x j pos}:PE X (.Constant (.str x) j pos) (tC (.str x)):=λ_ _ _ H _ I h=>Calls.Constant_str ⟨.str x,H,I.tok _,⟨_,rfl⟩,h⟩
def Gl(X:Cx)(x:Str):Prop:=X.env.kindOf x=some .globalImplicit
theorem Ud {E:Value->Shared->Prop} {pins:List (Addr×Obj)} {s:Shared} {σ:St} {H:Hp} {x:Str} {u:Value} {pos:Pos} {Q:Value->Shared->Prop} (I:Inv X pins σ H s) (hg:Gl X x) (hm:X.mg x=some u) (h:Q u s)
 (hd:(x == ("__debug__" : Str))=false:=by decide):wpAny (model X.prog X.w) X.A (eval (.Name x pos) X.env) Q E s:=
 Calls.Name_function_global I.ok.kind hg (Calls.loadGlobal_global (by rw [I.ok.glob];exact I.mod.glob.keeps I.bk) hm h) hd
theorem Q0 {E:Value->Shared->Prop} {pins:List (Addr×Obj)} {s:Shared} {σ:St} {H:Hp} {x:Str} {u:Value} {pos:Pos} {Q:Value->Shared->Prop} (I:Inv X pins σ H s) (hg:Gl X x) (hm:X.mg x=none) (hv:bootBuiltins x=some u) (h:Q u s)
 (hn:x ≠ "__name__" := by decide) (hd:(x == ("__debug__" : Str))=false:=by decide):wpAny (model X.prog X.w) X.A (eval (.Name x pos) X.env) Q E s:=by
 obtain⟨mb,h1,h2⟩:=I.mod.blt;exact Calls.Name_function_global I.ok.kind hg (Calls.loadGlobal_builtin (by rw [I.ok.glob];exact I.mod.glob.keeps I.bk) hm (by rw [I.ok.blt];exact h1.keeps I.bk) ((h2 x hn).trans hv) h) hd
theorem XU {x:Str} {v:V} {u:Value} {pos:Pos} (hg:Gl X x) (hm:X.mg x=some u) (r:RelV v u) (hd:(x == ("__debug__" : Str))=false:=by decide):PE X (.Name x pos) (tC v):=
 λ_ _ _ H _ I h=>Ud I hg hm ⟨v,H,I,r,h⟩ hd
theorem Uv {x:Str} {v:V} {u:Value} {pos:Pos} (hg:Gl X x) (hm:X.mg x=none) (hv:bootBuiltins x=some u) (r:RelV v u) (hn:x ≠ "__name__" := by decide) (hd:(x == ("__debug__" : Str))=false:=by decide):PE X (.Name x pos) (tC v):=
 λ_ _ _ H _ I h=>Q0 I hg hm hv ⟨v,H,I,r,h⟩ hn hd
variable{a b:Expr}{ta tb:TE}{pos:Pos}
def PC(X:Cx)(op:CmpOp)(a b:Expr)(t:TE):Prop:=
 ∀(pins:List (Addr×Obj))(s:Shared)(σ:St)(H:Hp)(Q:VK),Inv X pins σ H s->t σ H Q ->
  wpAny (model X.prog X.w) X.A (eval a X.env) (λv s₁=>wpAny (model X.prog X.w) X.A (eval b X.env) (λu s₂=>wpAny (model X.prog X.w) X.A (compareOp op v u) (EP X pins σ Q) X.xe s₂) X.xe s₁) X.xe s
theorem Zc7(b:Expr){op:CmpOp}(h:op ≠ .In)(h2:op ≠ .NotIn):behindInMarks op b=false:=by
 have e1:(op == CmpOp.In)=false:=by cases op<;>first|rfl|exact absurd rfl h
 have e2:(op == CmpOp.NotIn)=false:=by cases op<;>first|rfl|exact absurd rfl h2
 cases b<;>simp [behindInMarks,e1,e2]
def ZlO(ta:TE):TE:=λσ H Q=>ta σ H λx H1=>Q (.bl (decide (x = .non))) H1
def ZhM(ta:TE):TE:=λσ H Q=>ta σ H λx H1=>Q (.bl (!decide (x = .non))) H1
theorem RelV.none_iff{x:V}{v:Value}(r:RelV x v):(v == Value.none)=decide (x = .non):=by
 cases x with
 |non=>cases r;rfl
 |bl _=>cases r;rfl
 |int _=>obtain⟨t,rfl⟩:=r;rfl
 |str _=>obtain⟨t,rfl⟩:=r;rfl
 |byt _=>obtain⟨t,rfl⟩:=r;rfl
 |flt _=>obtain⟨t,rfl⟩:=r;rfl
 |ref _=>cases r;rfl
 |ty _=>cases r;rfl
theorem Vg{j pos'}(ha:PE X a ta):PC X .Is a (.Constant .none j pos') (ZlO ta):=by
 intro pins s σ H Q I h;refine thn (ha pins s σ H _ I h) λv s1 ⟨x,H1,I1,r1,q1⟩ => ?_
 exact Constant_none (is_none_gen ⟨.bl _,H1,I1,by rw [r1.none_iff];rfl,q1⟩)
theorem ZgY{j pos'}(ha:PE X a ta):PC X .IsNot a (.Constant .none j pos') (ZhM ta):=by
 intro pins s σ H Q I h;refine thn (ha pins s σ H _ I h) λv s1 ⟨x,H1,I1,r1,q1⟩ => ?_
 exact Constant_none (isnot_none_gen ⟨.bl _,H1,I1,by rw [r1.none_iff];rfl,q1⟩)
def tB(t:TE):TT:=λσ H Q=>t σ H λx H1=>∃c,x = .bl c/\Q c H1
theorem Zgh{op:CmpOp}{t:TE}(h:PC X op a b t)(h1:behindInMarks op b=false:=by first|exact Zc7 _ (by decide) (by decide)|rfl):PE X (.Compare a [op] [b] pos) t:=λpins s σ H Q I hw=>wpAny_Compare1 (h pins s σ H Q I hw) h1
theorem Vh{op:CmpOp}{t:TE}(h:PC X op a b t)(h1:behindInMarks op b=false:=by first|exact Zc7 _ (by decide) (by decide)|rfl):PT X (.Compare a [op] [b] pos) (tB t):=by
 intro pins s σ H Q I hw;refine wpAny_isTrue_Compare1 (thn (h pins s σ H _ I hw) λv s1 h1=>thn h1 λu s2 h2=>thn h2 λc s3 ⟨x,H1,I1,r1,q1⟩ => ?_) h1;obtain⟨d,rfl,q⟩:=q1;cases r1;exact wpAny_truthy_bool ⟨H1,I1,q⟩
theorem YB{e:Expr}{t:TE}(h:PE X e t)(he:∀whole,isTrue e X.env whole=(do let v <-whole;standAt e.pos;holding [v] (truthy v)):=by intro _;rfl):PT X e (tB t):=by
 intro pins s σ H Q I hw;refine isTrue_plain (thn (h pins s σ H _ I hw) λv s1 ⟨x,H1,I1,r1,q1⟩ => ?_) (he _);obtain⟨d,rfl,q⟩:=q1;cases r1;exact wpAny_truthy_bool ⟨H1,I1,q⟩
variable{tA tB':TT}{rest:List Expr}
def ZlP(t u:TT):TT:=λσ H Q=>t σ H λc H1=>if c=true then u σ H1 Q else Q false H1
def tOr(t u:TT):TT:=λσ H Q=>t σ H λc H1=>if c=true then Q true H1 else u σ H1 Q
def ZlQ(t:TT):TT:=λσ H Q=>t σ H λc H1=>Q (!c) H1
theorem Zef(ha:PT X a tA):PW X (.BoolOp .And [a] pos) tA:=by
 intro wh pins s σ H Q I h;refine isTrue_and (thn (ha pins s σ H Q I h) λc s1 e => ?_);cases c with
 |true=>exact isTrue_and_nil e
 |false=>exact e
theorem Vr(ha:PT X a tA):PW X (.BoolOp .Or [a] pos) tA:=by
 intro wh pins s σ H Q I h;refine isTrue_or (thn (ha pins s σ H Q I h) λc s1 e => ?_);cases c with
 |false=>exact isTrue_or_nil e
 |true=>exact e
theorem Zgi(ha:PT X a tA)(hb:PW X (.BoolOp .And (b::rest) pos) tB'):PW X (.BoolOp .And (a::b::rest) pos) (ZlP tA tB'):=by
 intro wh pins s σ H Q I h;refine isTrue_and (thn (ha pins s σ H _ I h) λc s1 ⟨H1,I1,q1⟩ => ?_);cases c with
 |true=>exact hb wh pins s1 σ H1 Q I1 q1
 |false=>exact⟨H1,I1,q1⟩
theorem X4(ha:PT X a tA)(hb:PW X (.BoolOp .Or (b::rest) pos) tB'):PW X (.BoolOp .Or (a::b::rest) pos) (tOr tA tB'):=by
 intro wh pins s σ H Q I h;refine isTrue_or (thn (ha pins s σ H _ I h) λc s1 ⟨H1,I1,q1⟩ => ?_);cases c with
 |true=>exact⟨H1,I1,q1⟩
 |false=>exact hb wh pins s1 σ H1 Q I1 q1
theorem XH(ha:PT X a tA):PT X (.UnaryOp .Not a pos) (ZlQ tA):=by
 intro pins s σ H Q I h;exact isTrue_not (ha pins s σ H (λc H1=>Q (!c) H1) I h)
def ZhN(ta tb:TE):TE:=λσ H Q=>ta σ H λx H1=>∃c,x = .bl c/\if c=true then tb σ H1 Q else Q (.bl false) H1
def ZlR(ta tb:TE):TE:=λσ H Q=>ta σ H λx H1=>∃c,x = .bl c/\if c=true then Q (.bl true) H1 else tb σ H1 Q
def ZhO(ta:TE):TE:=λσ H Q=>ta σ H λx H1=>∃c,x = .bl c/\Q (.bl (!c)) H1
theorem Q1{op}{t:TE}(h:PE X a t):PE X (.BoolOp op [a] pos) t:=λpins s σ H Q I hw=>BoolOp_one (h pins s σ H Q I hw)
theorem Q2(ha:PE X a ta)(hb:PE X (.BoolOp .And (b::rest) pos) tb):PE X (.BoolOp .And (a::b::rest) pos) (ZhN ta tb):=by
 intro pins s σ H Q I h;refine BoolOp_and (thn (ha pins s σ H _ I h) λv s1 ⟨x,H1,I1,r1,q1⟩ => ?_);obtain⟨c,rfl,q1⟩:=q1;cases r1;refine wpAny_truthy_bool ?_;cases c with
 |true=>exact hb pins s1 σ H1 Q I1 q1
 |false=>exact⟨.bl false,H1,I1,rfl,q1⟩
theorem Zku(ha:PE X a ta)(hb:PE X (.BoolOp .Or (b::rest) pos) tb):PE X (.BoolOp .Or (a::b::rest) pos) (ZlR ta tb):=by
 intro pins s σ H Q I h;refine BoolOp_or (thn (ha pins s σ H _ I h) λv s1 ⟨x,H1,I1,r1,q1⟩ => ?_);obtain⟨c,rfl,q1⟩:=q1;cases r1;refine wpAny_truthy_bool ?_;cases c with
 |false=>exact hb pins s1 σ H1 Q I1 q1
 |true=>exact⟨.bl true,H1,I1,rfl,q1⟩
theorem Zgj(ha:PE X a ta):PE X (.UnaryOp .Not a pos) (ZhO ta):=by
 intro pins s σ H Q I h;refine UnaryOp_ (thn (ha pins s σ H _ I h) λv s1 ⟨x,H1,I1,r1,q1⟩ => ?_);obtain⟨c,rfl,q1⟩:=q1;cases r1;exact not_of (wpAny_truthy_bool ⟨.bl (!c),H1,I1,rfl,q1⟩)
def tIf(t:TT)(ta tb:TE):TE:=λσ H Q=>t σ H λc H1=>if c=true then ta σ H1 Q else tb σ H1 Q
theorem Zc8{c:Expr}(hc:PT X c tA)(ha:PE X a ta)(hb:PE X b tb):PE X (.IfExp c a b pos) (tIf tA ta tb):=by
 intro pins s σ H Q I h;refine wpAny_IfExp (thn (hc pins s σ H _ I h) λd s1 ⟨H1,I1,q1⟩ => ?_);cases d with
 |true=>exact ha pins s1 σ H1 Q I1 q1
 |false=>exact hb pins s1 σ H1 Q I1 q1
end
end L2
namespace L2
open PySem PySem.Spec PyProof.Rows
def SqL(K:PySem.W.Frag)(H:Hp)(a:Addr)(xs:List V):Prop:=
 Rd H a (.lst xs) \/
  ∃(o:Obj) (its:Array Value) (n:Nat),K.lookup a=some o/\o.cls = .type "list" /\ o.dict=none/\o.data = .seq its n/\its.size<=sizeLine/\Vals xs its.toList
def SqT(K:PySem.W.Frag)(H:Hp)(a:Addr)(xs:List V):Prop:=
 Rd H a (.tup xs) \/
  ∃(o:Obj) (its:Array Value) (n:Nat),K.lookup a=some o/\o.cls = .type "tuple" /\ o.data = .seq its n/\its.size<=sizeLine/\Vals xs its.toList
def Zmc:Value->Option V
 | .none=>some .non
 | .bool b=>some (.bl b)
 | .int i _=>some (.int i)
 | .str x _=>some (.str x)
 | .bytes b _=>some (.byt b)
 | .float b _=>some (.flt b)
 | .ref a=>some (.ref a)
 | .type n=>some (.ty n)
 |_=>none
theorem RelV.abs{x:V}{u:Value}(r:RelV x u):Zmc u=some x:=by
 cases x with
 |non=>cases r;rfl
 |bl _=>cases r;rfl
 |int _=>obtain⟨t,rfl⟩:=r;rfl
 |str _=>obtain⟨t,rfl⟩:=r;rfl
 |byt _=>obtain⟨t,rfl⟩:=r;rfl
 |flt _=>obtain⟨t,rfl⟩:=r;rfl
 |ref _=>cases r;rfl
 |ty _=>cases r;rfl
theorem RelV.inj{x y:V}{u:Value}(r:RelV x u)(q:RelV y u):x=y:=Option.some.inj (r.abs.symm.trans q.abs)
theorem Vals.inj:∀{xs ys:List V}{us:List Value},Vals xs us->Vals ys us->xs=ys
 |_,_,_,.nil,.nil=>rfl
 |_,_,_,.cons r t,.cons r' t'=>by rw [r.inj r',Vals.inj t t']
section
variable{X:Cx}{pins:List (Addr×Obj)}{σ:St}{H:Hp}{s:Shared}{a:Addr}{xs ys:List V}
theorem SqL.of{K:PySem.W.Frag}(h:H a=some (.lst xs)):SqL K H a xs := .inl (.inl h)
theorem SqT.of{K:PySem.W.Frag}(h:H a=some (.tup xs)):SqT K H a xs := .inl (.inl h)
theorem Inv.list(I:Inv X pins σ H s)(h:SqL X.K H a xs):∃its:List Value,Vals xs its/\PlainL s.heap a its.toArray/\xs.length<=sizeLine:=by
 rcases h with h|⟨o,its,n,hk,hc,hd,hs,hz,r⟩
 · obtain⟨z,its,n,r,e⟩:=h.ok I.hok
   exact⟨its,r,⟨_,n,e,rfl,rfl,rfl⟩,z⟩
 · refine⟨its.toList,r,⟨o,n,I.kIn a o hk,hc,hd,by simpa using hs⟩,?_⟩
   have e:=r.length;simp only [Array.length_toList]at e;omega
theorem Inv.tuple(I:Inv X pins σ H s)(h:SqT X.K H a xs):∃its:List Value,Vals xs its/\IsTup s.heap a its.toArray/\xs.length<=sizeLine:=by
 rcases h with h|⟨o,its,n,hk,hc,hs,hz,r⟩
 · obtain⟨z,its,r,p⟩:=h.ok I.hok
   exact⟨its,r,p.tup,z⟩
 · refine⟨its.toList,r,⟨o,I.kIn a o hk,hc,n,by simpa using hs⟩,?_⟩
   have e:=r.length;simp only [Array.length_toList]at e;omega
theorem Inv.list_inj(I:Inv X pins σ H s)(h:SqL X.K H a xs)(h':SqL X.K H a ys):xs=ys:=by
 obtain⟨its,r,⟨o,n,e,_,_,d⟩,_⟩:=I.list h;obtain⟨its',r',⟨o',n',e',_,_,d'⟩,_⟩:=I.list h';rw [e]at e';cases e';rw [d]at d';injection d' with d1 _
 have:its=its':=by simpa using congrArg Array.toList d1
 subst this;exact r.inj r'
theorem Inv.tuple_inj(I:Inv X pins σ H s)(h:SqT X.K H a xs)(h':SqT X.K H a ys):xs=ys:=by
 obtain⟨its,r,⟨o,e,_,n,d⟩,_⟩:=I.tuple h;obtain⟨its',r',⟨o',e',_,n',d'⟩,_⟩:=I.tuple h';rw [e]at e';cases e';rw [d]at d';injection d' with d1 _
 have:its=its':=by simpa using congrArg Array.toList d1
 subst this;exact r.inj r'
end
abbrev Cx.wish(X:Cx)(E:Value->Shared->Prop):Cx:={ X with xe:=E }
abbrev Cx.nox(X:Cx):Cx:=X.wish λ_ _=>False
theorem Cx.Ok.wish{X:Cx}(ok:X.Ok)(E:Value->Shared->Prop):(X.wish E).Ok:=
 ⟨ok.mod,ok.kind,ok.glob,ok.blt,ok.above,ok.inj,ok.has,ok.cab,ok.hd,ok.frames,ok.stk,ok.exf,ok.bs,ok.bsz,ok.noex,ok.exfs,ok.funs,ok.frf,ok.tb⟩
theorem Cx.Ok.unwish{X:Cx}{E:Value->Shared->Prop}(ok:(X.wish E).Ok):X.Ok:=
 ⟨ok.mod,ok.kind,ok.glob,ok.blt,ok.above,ok.inj,ok.has,ok.cab,ok.hd,ok.frames,ok.stk,ok.exf,ok.bs,ok.bsz,ok.noex,ok.exfs,ok.funs,ok.frf,ok.tb⟩
section
variable{X:Cx}{pins:List (Addr×Obj)}{σ:St}{H:Hp}{s:Shared}{E:Value->Shared->Prop}
theorem Inv.wish(I:Inv X pins σ H s)(E:Value->Shared->Prop):Inv (X.wish E) pins σ H s:=⟨I.ok.wish E,I.os,I.bare,I.base,I.loc,I.cell,I.free,I.freeC,I.pin,I.hok,I.len,I.fzs⟩
theorem Inv.unwish(I:Inv (X.wish E) pins σ H s):Inv X pins σ H s:=⟨I.ok.unwish,I.os,I.bare,I.base,I.loc,I.cell,I.free,I.freeC,I.pin,I.hok,I.len,I.fzs⟩
theorem SP.unwish{D:Ends}{f:Flow}{s':Shared}(h:SP (X.wish E) pins D f s'):SP X pins D f s':=by
 cases f with
 |next=>obtain⟨σ',H',I,q⟩:=h;exact⟨σ',H',I.unwish,q⟩
 |brk=>obtain⟨σ',H',I,q⟩:=h;exact⟨σ',H',I.unwish,q⟩
 |cont=>obtain⟨σ',H',I,q⟩:=h;exact⟨σ',H',I.unwish,q⟩
 |ret u=>obtain⟨v,σ',H',I,r,q⟩:=h;exact⟨v,σ',H',I.unwish,r,q⟩
theorem PSs.nox{st:List Stmt}{t:TS}(h:PSs X.nox st t):PSs X st t:=λpins s σ H D I hw=>
 wpAny_mono (h pins s σ H D (I.wish _) hw) (λ_ _ q=>q.unwish) λ_ _ z=>False.elim z
end
section
variable{X:Cx}{st:Stmt}{rest:List Stmt}{t u:TS}{e:Expr}{te:TE}{pos:Pos}
def tNext:TS:=λD σ H=>D.nx σ H
def J5(t u:TS):TS:=λD σ H=>t { D with nx:=u D } σ H
theorem ZO:PSs X [] tNext:=λ_ _ σ H _ I h=>wpAny_execs_nil ⟨σ,H,I,h⟩
theorem Zn(h1:PS X st t)(h2:PSs X rest u):PSs X (st::rest) (J5 t u):=by
 intro pins s σ H D I h;refine wpAny_execs_cons (thn (h1 pins s σ H { D with nx:=u D } I h) λf s1 q => ?_);cases f with
 |next=>
  obtain⟨σ',H',I',q⟩:=q;exact h2 pins s1 σ' H' D I' q
 |ret v=>exact q
 |brk=>exact q
 |cont=>exact q
theorem Zr(h1:PS X st t):PSs X [st] t:=by
 intro pins s σ H D I h;refine wpAny_execs_cons (thn (h1 pins s σ H D I h) λf s1 q => ?_);cases f with
 |next=>exact wpAny_execs_nil q
 |ret v=>exact q
 |brk=>exact q
 |cont=>exact q
theorem Inv.quiet{pins:List (Addr×Obj)}{σ:St}{H:Hp}{s:Shared}(I:Inv X pins σ H s):interactive X.env=false:=by simp [interactive,I.ok.kind]
def UI(te:TE):TS:=λD σ H=>te σ H λ_ H1=>D.nx σ H1
theorem YH(he:PE X e te)(hs:swapsWith e none pos.line X.env=pure false:=by rfl):PS X (.Expr e pos) (UI te):=by
 intro pins s σ H D I h;exact wpAny_Expr_any (thn (he pins s σ H _ I h) λv s1 ⟨x,H1,I1,r1,q1⟩=>⟨σ,H1,I1,q1⟩) I.quiet hs
def J6(te:TE):TS:=λD σ H=>te σ H D.rt
theorem Zy(he:PE X e te):PS X (.Return (some e) pos) (J6 te):=by
 intro pins s σ H D I h;exact wpAny_Return_some (thn (he pins s σ H _ I h) λv s1 ⟨x,H1,I1,r1,q1⟩=>⟨x,σ,H1,I1,r1,q1⟩)
def ZlS(c:TT)(t u:TS):TS:=λD σ H=>c σ H λb H1=>if b=true then t D σ H1 else u D σ H1
theorem ZP{c:Expr}{a b:List Stmt}{tc:TT}(hc:PT X c tc)(ha:PSs X a t)(hb:PSs X b u):PS X (.If c a b pos) (ZlS tc t u):=by
 intro pins s σ H D I h;refine wpAny_If (thn (hc pins s σ H _ I h) λd s1 ⟨H1,I1,q1⟩ => ?_);cases d with
 |true=>exact ha pins s1 σ H1 D I1 q1
 |false=>exact hb pins s1 σ H1 D I1 q1
def tNever:TS:=λ_ _ _=>False
theorem Q3:PS X st tNever:=λ_ _ _ _ _ _ h=>h.elim
end
abbrev TG:=V->St->Hp->(St->Hp->Prop)->Prop
abbrev TGs:=List V->St->Hp->(St->Hp->Prop)->Prop
def PG(X:Cx)(target:Expr)(t:TG):Prop:=
 ∀(pins:List (Addr×Obj))(s:Shared)(σ:St)(H:Hp)(v:V)(u:Value)(Q:St->Hp->Prop),Inv X pins σ H s->RelV v u->t v σ H Q ->
  wpAny (model X.prog X.w) X.A (assign target X.env u) (λ_ s'=>∃σ' H',Inv X pins σ' H' s'/\Q σ' H') X.xe s
def PGs(X:Cx)(ts:List Expr)(t:TGs):Prop:=
 ∀(pins:List (Addr×Obj))(s:Shared)(σ:St)(H:Hp)(vs:List V)(us:List Value)(Q:St->Hp->Prop),Inv X pins σ H s->Vals vs us->t vs σ H Q ->
  wpAny (model X.prog X.w) X.A (assignInOrder ((assignEach ts X.env).map (·.2)) us) (λ_ s'=>∃σ' H',Inv X pins σ' H' s'/\Q σ' H') X.xe s
section
variable{X:Cx}{pos:Pos}
def Uw(i:Nat):TG:=λv σ H Q=>Q (σ.set i (some v)) H
theorem YI{i:Nat}{x:Str}(hN:X.N.Nodup)(hi:X.N[i]? = some x:=by rfl)(hx:Loc X.env.scope x:=by first|exact Or.inl rfl|exact Or.inr rfl)(hf:X.fn x=true\/X.env.scope.names.lookup x=some .local:=by first|exact .inl rfl|exact .inr rfl|assumption):PG X (.Name x pos) (Uw i):=by
 intro pins s σ H v u Q I r h;exact wpAny_assign_Name (Zc6 I hN hi hx r (λs' I'=>⟨_,H,I',h⟩) hf)
def gNil:TGs:=λvs σ H Q=>vs=[]/\Q σ H
def ZhP(t:TG)(u:TGs):TGs:=λvs σ H Q=>∃v r,vs=v::r/\t v σ H λσ' H'=>u r σ' H' Q
theorem Zeg:PGs X [] gNil:=by
 intro pins s σ H vs us Q I r h;obtain⟨e,h⟩:=h;subst e;cases r;exact assignInOrder_nil ⟨σ,H,I,h⟩
theorem J7 {e:Expr} {es:List Expr} {t:TG} {u:TGs} (h1:PG X e t) (h2:PGs X es u)
 (hs:(assignEach (e::es) X.env).map (·.2)=assign e X.env::(assignEach es X.env).map (·.2):=by rfl):PGs X (e::es) (ZhP t u):=by
 intro pins s σ H vs us Q I r h;obtain⟨v,vr,e1,h⟩:=h;subst e1;cases r with
 |cons r rr=>
  rw [hs];refine assignInOrder_cons (thn (h1 pins s σ H _ _ _ I r h) λ_ s1 ⟨σ1,H1,I1,q1⟩ => ?_);exact h2 pins s1 σ1 H1 _ _ Q I1 rr q1
def ZjS(K:PySem.W.Frag)(n:Nat)(t:TGs):TG:=λv σ H Q=>∃a xs,v = .ref a/\SqT K H a xs/\xs.length=n/\t xs σ H Q
theorem Zim {es:List Expr} {k:Nat} {t:TGs} {n:Nat} (hc:X.calm=true) (h:PGs X es t)
 (hn:(assignEach es X.env).length=n:=by rfl) (hst:(assignEach es X.env).findIdx? (·.1)=none:=by rfl):PG X (.Tuple es k pos) (ZjS X.K n t):=by
 intro pins s σ H v u Q I r hw;obtain⟨a,xs,e1,hq,hl,hw⟩:=hw;subst e1;cases r;obtain⟨its,rv,ht,hz⟩:=I.tuple hq;refine assign_Tuple_tuple (I.ok.hd hc) ht (by simp [hn,<-hl,rv.length]) hst λh' hx => ?_
 have I1:Inv X pins σ H { s with heap:=h' }:=I.kept (t':=s.toks) λb o e=>hx b o (Nat.ne_of_lt (Heap.lt_size e)) e
 exact h pins _ σ H xs _ Q I1 (by simpa using rv) hw
def Qi(te:TE)(g:TG):TS:=λD σ H=>te σ H λx H1=>g x σ H1 D.nx
theorem Z4{i:Nat}{x:Str}{e:Expr}{te:TE}{pos':Pos}(hN:X.N.Nodup)(hi:X.N[i]? = some x)(hx:Loc X.env.scope x)(he:PE X e te)(hs:swapsWith e (some (.Name x pos')) pos.line X.env=pure false:=by rfl)(hf:X.fn x=true\/X.env.scope.names.lookup x=some .local:=by first|exact .inl rfl|exact .inr rfl|assumption) :
 PS X (.Assign [.Name x pos'] e pos) (Qi te (Uw i)):=by
 intro pins s σ H D I h;refine wpAny_Assign_Name (thn (he pins s σ H _ I h) λv s1 ⟨y,H1,I1,r1,q1⟩ => ?_) hs;exact Zc6 I1 hN hi hx r1 (λs2 I2=>⟨_,H1,I2,q1⟩) hf
end
section
variable{X:Cx}{pos:Pos}
end
structure It where
 go:Nat->Hp->Prop
 yld:Nat->Hp->V->Hp->Prop
 stop:Nat->Hp->Prop
def XV(X:Cx)(pins:List (Addr×Obj))(H:Hp)(b:Addr):Prop:=
 H b=none/\b≠X.env.locals/\b∉X.fs/\(b∈X.ex\/X.s₀.heap.objs.size<=b)/\(∀x c,X.env.cells.lookup x=some c->c≠b)/\∀p∈X.pn++pins,p.1≠b
theorem Inv.fpOk{X:Cx}{pins:List (Addr×Obj)}{σ:St}{H H':Hp}{s:Shared}{b:Addr}(I:Inv X pins σ H s)(hb:s.heap.objs.size<=b)(hn:H' b=none):XV X pins H' b:=by
 refine⟨hn,Nat.ne_of_gt (Nat.lt_of_lt_of_le I.lt hb),I.nofs hb,.inr (Nat.le_trans I.sz hb),λx c e z => ?_,λp hp z => ?_⟩
 · obtain⟨v,q⟩:=I.cell x c e
   exact absurd (Nat.lt_of_lt_of_le q.lt (by rw [z];exact hb)) (Nat.lt_irrefl _)
 · exact absurd (Nat.lt_of_lt_of_le (Heap.lt_size (I.pin p hp).1) (by rw [z];exact hb)) (Nat.lt_irrefl _)
structure Turn(P:Program)(w:World)(K:PySem.W.Frag)(tg:Expr)(J:It)(fp:List Addr)(it:Addr)(tn:Nat->Heap->Prop):Prop where
 mem:it∈fp
 obj:∀i h,tn i h->∀b∈fp,∃o,h.get? b=some o/\∀v,o.data ≠ .cell v
 keep:∀i h h',tn i h->(∀b∈fp,∀o,h.get? b=some o->h'.get? b=some o)->tn i h'
 item:∀(X:Cx),X.prog=P->X.w=w->X.K=K->X.calm=true->∀(i:Nat)(pins:List (Addr×Obj))(s:Shared)(σ:St)(H:Hp)(E:Value->Shared->Prop),Inv X pins σ H s->(∀b∈fp,XV X pins H b)->tn i s.heap->J.go i H ->
  wpAny (model P w) X.A (pyNext (.ref it)) (λr s1=>∃u,r=some u /\
   wpAny (model P w) X.A (letOwnedTupleGo tg (.ref it) u) (λ_ s2=>∃x H',Inv X pins σ H' s2/\RelV x u/\J.yld i H x H'/\tn (i+1) s2.heap/\∀b∈fp,H' b=none) E s1) E s
 done:∀(X:Cx),X.prog=P->X.w=w->X.K=K->X.calm=true->∀(i:Nat)(pins:List (Addr×Obj))(s:Shared)(σ:St)(H:Hp)(E:Value->Shared->Prop),Inv X pins σ H s->(∀b∈fp,XV X pins H b)->tn i s.heap->J.stop i H ->
  wpAny (model P w) X.A (pyNext (.ref it)) (λr s1=>r=none/\Inv X pins σ H s1) E s
 self:∀(A:Around)(i:Nat)(s:Shared)(Q:Value->Shared->Prop)(E:Value->Shared->Prop),tn i s.heap->Q (.ref it) s->wpAny (model P w) A (pyIter (.ref it)) Q E s
abbrev TI:=St->Hp->(It->Hp->Prop)->Prop
def PIE(X:Cx)(pins:List (Addr×Obj))(σ:St)(tg:Expr)(R:It->Hp->Prop)(itv:Value)(s2:Shared):Prop:=
 ∃(it:Addr) (fp:List Addr) (tn:Nat->Heap->Prop) (J:It) (H':Hp),itv = .ref it/\Inv X pins σ H' s2/\Turn X.prog X.w X.K tg J fp it tn/\tn 0 s2.heap/\(∀b∈fp,XV X pins H' b)/\R J H'
def PI(X:Cx)(tg iter:Expr)(wi:TI):Prop:=
 ∀(pins:List (Addr×Obj))(s:Shared)(σ:St)(H:Hp)(R:It->Hp->Prop),Inv X pins σ H s->wi σ H R ->
  wpAny (model X.prog X.w) X.A (eval iter X.env) (λv s1=>wpAny (model X.prog X.w) X.A (pyIter v) (PIE X pins σ tg R) X.xe s1) X.xe s
theorem J8 {M:Model} {A:Around} {E:Value->Shared->Prop} {s:Shared} {tg:Expr} {it:Addr} {u:Value} {o:Obj} {n:String} {vs:Array Value} {Q:Unit->Shared->Prop} (ho:s.heap.get? it=some o) (hc:o.cls = .type n) (hd:o.data = .fields vs)
 (hn:["enumerate", "zip", "dict_itemiterator", "dict_reverseitemiterator", "odict_iterator", "itertools.zip_longest", "itertools.pairwise"].contains n=false) (hQ:Q () s):wpAny M A (letOwnedTupleGo tg (.ref it) u) Q E s:=by
 unfold letOwnedTupleGo
 cases tg<;>first
  |exact wpAny_pure hQ
  | (cases u <;> first
      |exact wpAny_pure hQ
      | (refine wpAny_bind (wpAny_load ho ?_)
         rw [hc,hd];show wpAny M A (if(["enumerate", "zip", "dict_itemiterator", "dict_reverseitemiterator", "odict_iterator", "itertools.zip_longest", "itertools.pairwise"].contains n&&vs[0]? == some (rawInt _))=true then _ else _) Q E s;rw [if_neg (by intro h;rw [hn,Bool.false_and]at h;cases h)];exact wpAny_pure hQ))
def Itl(K:PySem.W.Frag)(a:Addr):It:=
 ⟨λi H=>∃xs x,SqL K H a xs/\xs[i]? = some x,λi H x H'=>H'=H/\∀xs,SqL K H a xs->xs[i]? = some x,λi H=>∃xs,SqL K H a xs/\xs.length<=i⟩
def Itt(K:PySem.W.Frag)(a:Addr):It:=
 ⟨λi H=>∃xs x,SqT K H a xs/\xs[i]? = some x,λi H x H'=>H'=H/\∀xs,SqT K H a xs->xs[i]? = some x,λi H=>∃xs,SqT K H a xs/\xs.length<=i⟩
def Itr(lo:Int)(n:Nat):It:=⟨λi _=>i<n,λi H x H'=>H'=H/\x = .int (lo+i),λi _=>n<=i⟩
theorem ZeJ{P:Program}{w:World}{K:PySem.W.Frag}{tg:Expr}(a it:Addr):Turn P w K tg (Itl K a) [it] it (λi h=>h.IsListIter it a i) where
 mem:=by simp
 obj:=λi h st b hb=>by
  have e:b=it:=by simpa using hb
  subst e;obtain⟨o,e,c,d⟩:=st;exact⟨o,e,λv z=>by rw [d]at z;cases z⟩
 keep:=λi h h' st k=>st.at λo e=>k it (by simp) o e
 item:=by
  intro X hP hw hK hc i pins s σ H E I hf st hg;subst hP hw hK;obtain⟨xs,x,hq,hx⟩:=hg;obtain⟨its,rv,p,hz⟩:=I.list hq;obtain⟨u,hu,ru⟩:=rv.get hx;obtain⟨f0,f1,f2,f3,f4,f5⟩:=hf it (by simp);refine wpAny_pyNext_list_item st p.isList (x:=u) (by simpa using hu) λh' st' sb => ?_
  have I1:Inv X pins σ H { s with heap:=h' }:=I.turned (t':=s.toks) (λb o hb e=>(sb.2 b hb).trans e) f0 f1 f3 f4 f5;obtain⟨o,e,c,d⟩:=id st';exact⟨u,rfl,J8 (s:={ s with heap:=h' }) e c d (by decide) ⟨x,H,I1,ru,⟨rfl,λys hy=>by rw [I.list_inj hy hq];exact hx⟩,st',λb hb=>(hf b hb).1⟩⟩
 done:=by
  intro X hP hw hK hc i pins s σ H E I hf st hg;subst hP hw hK;obtain⟨xs,hq,hx⟩:=hg;obtain⟨its,rv,p,hz⟩:=I.list hq;obtain⟨f0,f1,f2,f3,f4,f5⟩:=hf it (by simp);have hl:=rv.length;exact wpAny_pyNext_list_end (I.ok.hd hc) st p.isList (by simp;omega) λh' eb=>⟨rfl,I.turned (t':=s.toks) (λb o hb e=>eb b o hb e) f0 f1 f3 f4 f5⟩
 self:=λ_ _ _ _ _ st h=>wpAny_pyIter_listiter st h
theorem Zbq{P:Program}{w:World}{K:PySem.W.Frag}{tg:Expr}(a it:Addr):Turn P w K tg (Itt K a) [it] it (λi h=>h.IsTupleIter it a i) where
 mem:=by simp
 obj:=λi h st b hb=>by
  have e:b=it:=by simpa using hb
  subst e;obtain⟨o,e,c,d⟩:=st;exact⟨o,e,λv z=>by rw [d]at z;cases z⟩
 keep:=λi h h' st k=>st.at λo e=>k it (by simp) o e
 item:=by
  intro X hP hw hK hc i pins s σ H E I hf st hg;subst hP hw hK;obtain⟨xs,x,hq,hx⟩:=hg;obtain⟨its,rv,p,hz⟩:=I.tuple hq;obtain⟨u,hu,ru⟩:=rv.get hx;obtain⟨f0,f1,f2,f3,f4,f5⟩:=hf it (by simp);refine wpAny_pyNext_tuple_item st (show s.heap.IsTuple a its.toArray from p) (x:=u) (by simpa using hu) λh' st' sb => ?_
  have I1:Inv X pins σ H { s with heap:=h' }:=I.turned (t':=s.toks) (λb o hb e=>(sb.2 b hb).trans e) f0 f1 f3 f4 f5;obtain⟨o,e,c,d⟩:=id st';exact⟨u,rfl,J8 (s:={ s with heap:=h' }) e c d (by decide) ⟨x,H,I1,ru,⟨rfl,λys hy=>by rw [I.tuple_inj hy hq];exact hx⟩,st',λb hb=>(hf b hb).1⟩⟩
 done:=by
  intro X hP hw hK hc i pins s σ H E I hf st hg;subst hP hw hK;obtain⟨xs,hq,hx⟩:=hg;obtain⟨its,rv,p,hz⟩:=I.tuple hq;obtain⟨f0,f1,f2,f3,f4,f5⟩:=hf it (by simp);have hl:=rv.length;exact wpAny_pyNext_tuple_end (I.ok.hd hc) st (show s.heap.IsTuple a its.toArray from p) (by simp;omega) λh' eb=>⟨rfl,I.turned (t':=s.toks) (λb o hb e=>eb b o hb e) f0 f1 f3 f4 f5⟩
 self:=λ_ _ _ _ _ st h=>wpAny_pyIter_tupleiter st h
theorem ZdE{P:Program}{w:World}{K:PySem.W.Frag}{tg:Expr}(it:Addr)(lo:Int)(n:Nat):Turn P w K tg (Itr lo n) [it] it (λi h=>IsRangeIter h it (lo+(i:Nat)*1) ((n:Int)-(i:Nat)) 1) where
 mem:=by simp
 obj:=λi h st b hb=>by
  have e:b=it:=by simpa using hb
  subst e
  exact⟨_,st,λv z=>by
   have z':Data.fields _=Data.cell v:=z;cases z'⟩
 keep:=λi h h' st k=>k it (by simp) _ st
 item:=by
  intro X hP hw hK hc i pins s σ H E I hf st hg;subst hP hw hK;obtain⟨f0,f1,f2,f3,f4,f5⟩:=hf it (by simp);have W:=Walks.range (prog:=X.prog) (w:=X.w) (I.ok.hd hc) it lo 1 n;refine W.item i s _ _ hg st λv h' tk hv st' kk => ?_
  obtain⟨t,rfl⟩:=hv;have I1:Inv X pins σ H { s with heap:=h',toks:=tk }:=I.turned (λb o hb e=>kk b o (by simpa using hb) e) f0 f1 f3 f4 f5;refine⟨_,rfl,J8 (s:={ s with heap:=h',toks:=tk }) (n:="range_iterator") st' rfl rfl (by decide) ⟨.int (lo+i),H,I1,⟨t,?_⟩,⟨rfl,rfl⟩,st',λb hb=>(hf b hb).1⟩⟩;rw [Int.mul_one]
 done:=by
  intro X hP hw hK hc i pins s σ H E I hf st hg;subst hP hw hK;obtain⟨f0,f1,f2,f3,f4,f5⟩:=hf it (by simp);exact wpAny_pyNext_range_end (I.ok.hd hc) st (by have:n<=i:=hg;omega) λh' eb=>⟨rfl,I.turned (t':=s.toks) (λb o hb e=>eb b o hb e) f0 f1 f3 f4 f5⟩
 self:=λ_ _ _ _ _ st h=>wpAny_pyIter_rangeiter st h
end L2
namespace L2
open PySem PySem.Spec PyProof.Rows
section
variable{X:Cx}{tg:Expr}
def Zmd(K:PySem.W.Frag)(tl:TE):TI:=λσ H R=>tl σ H λx H1=>∃a,x = .ref a/\(∃xs,SqT K H1 a xs)/\R (Itt K a) H1
theorem Zin{l:Expr}{tl:TE}(hl:PE X l tl):PI X tg l (Zmd X.K tl):=by
 intro pins s σ H R I h;refine thn (hl pins s σ H _ I h) λv s1 ⟨x,H1,I1,r1,q1⟩ => ?_
 obtain⟨a,e,⟨xs,hq⟩,q⟩:=q1;subst e;cases r1;obtain⟨its,rv,p,hz⟩:=I1.tuple hq;refine wpAny_pyIter_tuple (show s1.heap.IsTuple a its.toArray from p) ?_;refine⟨s1.heap.objs.size,[s1.heap.objs.size],_,_,H1,rfl,I1.kept (t':=s1.toks) λb o e=>Heap.get?_push_of_some _ e,Zbq a _,⟨_,Heap.get?_push_size _ rfl,rfl,rfl⟩,λb hb => ?_,q⟩;have e:b=s1.heap.objs.size:=by simpa using hb
 subst e;exact I1.fpOk (Nat.le_refl _) (I1.hok.fresh (Nat.le_refl _))
theorem Zfx {pins:List (Addr×Obj)} {σ:St} {H:Hp} {s:Shared} {R:It->Hp->Prop} {E:Value->Shared->Prop} {lo hi:Int} {t u v:Tok} {tk:Nat} (I:Inv X pins σ H s) (h1 : -(2 ^ 62)<=lo) (h2:lo<2 ^ 62) (h3 : -(2 ^ 62)<=hi) (h4:hi<2 ^ 62)
 (q:R (Itr lo (hi-lo).toNat) H):wpAny (model X.prog X.w) X.A (pyIter (.ref s.heap.objs.size)) (PIE X pins σ tg R) E { s with heap:=s.heap.push { cls := .type "range",data := .fields #[.int lo t,.int hi u,.int 1 v] },toks:=tk }:=by
 refine wpAny_pyIter_range (IsRange.new ..) (small_one h1 h2 h3 h4) ?_;have I1:Inv X pins σ H { s with heap:=s.heap.push { cls := .type "range",data := .fields #[.int lo t,.int hi u,.int 1 v] },toks:=tk }:=I.kept λb o e=>Heap.get?_push_of_some _ e
 refine⟨(s.heap.push { cls := .type "range",data := .fields #[.int lo t,.int hi u,.int 1 v] }).objs.size,[(s.heap.push { cls := .type "range",data := .fields #[.int lo t,.int hi u,.int 1 v] }).objs.size],_,_,H,rfl,
  I1.kept (t':=tk) λb o e=>Heap.get?_push_of_some _ e,ZdE _ lo (hi-lo).toNat,?_,λb hb => ?_,q⟩
 · have e1:lo+((0:Nat):Int)*1=lo:=by simp
   have e2:(((hi-lo).toNat:Nat):Int)-((0:Nat):Int)=Builtin.Range.rangeSize lo hi 1:=by rw [rangeSize_one];split<;>omega
   show IsRangeIter _ _ (lo+((0:Nat):Int)*1) ((((hi-lo).toNat:Nat):Int)-((0:Nat):Int)) 1;rw [e1,e2];exact Heap.get?_push_size _ rfl
 · have e:b=(s.heap.push { cls := .type "range",data := .fields #[.int lo t,.int hi u,.int 1 v] }).objs.size:=by simpa using hb
   subst e;exact I1.fpOk (Nat.le_refl _) (I1.hok.fresh (Nat.le_refl _))
def ZhQ(ta:TA):TI:=λσ H R=>ta σ H λvs H1=>∃j:Int,vs=[.int j] /\ -(2 ^ 62)<=j/\j<2 ^ 62/\R (Itr 0 j.toNat) H1
theorem UJ {a:Expr} {ta:TA} {p pos:Pos} (hg:Gl X "range") (hm:X.mg "range" = none) (ha:PA X [a] ta) (hs:starEach [a] X.env=[(false,eval a X.env)]:=by rfl):PI X tg (.Call (.Name "range" p) [a] [] pos) (ZhQ ta):=by
 intro pins s σ H R I h;refine Call_ (Q0 I hg hm boot_range (PyProof.Rows.callWith_type1 (thn (ha pos pins s σ H _ I h) λus s1 ⟨vs,H1,I1,r1,q1⟩ => ?_) hs rfl));obtain⟨j,e,q1,q2,q⟩:=q1;subst e;cases r1 with
 |cons r rr=>
  cases rr;obtain⟨t,rfl⟩:=r;exact call_range_1 (Zfx I1 (by omega) (by omega) q1 q2 (by simpa using q))
def ZlT(wi:TI)(g:TG)(tb:TS):TS:=λD σ H=>wi σ H λJ H1=>∃W:Nat->Nat->St->Hp->Prop,(∃m,W 0 m σ H1)/\∀i m σ H,W i m σ H ->
 (J.stop i H/\D.nx σ H)\/(J.go i H/\∃N:St->Hp->Prop,(∀σ' H',N σ' H'->∃m',m'<m/\W (i+1) m' σ' H')/\∀x H',J.yld i H x H'->g x σ H' λσ2 H2=>tb { D with nx:=N,ct:=N,bk:=D.nx } σ2 H2)
def VU(fp:List Addr)(h:Heap):List (Addr×Obj):=fp.filterMap λb=>(h.get? b).map λo=>(b,o)
theorem J9{fp:List Addr}{h:Heap}{b:Addr}{o:Obj}(hb:b∈fp)(e:h.get? b=some o):(b,o)∈VU fp h:=List.mem_filterMap.mpr ⟨b,hb,by rw [e];rfl⟩
theorem Zb0{fp:List Addr}{h:Heap}{p:Addr×Obj}(hp:p∈VU fp h):p.1∈fp/\h.get? p.1=some p.2:=by
 obtain⟨b,hb,e⟩:=List.mem_filterMap.mp hp;cases q:h.get? b with
 |none=>rw [q]at e;cases e
 |some o=>
  rw [q]at e;have e':(b,o)=p:=Option.some.inj e;subst e';exact⟨hb,q⟩
theorem Inv.pinned{pins:List (Addr×Obj)}{σ:St}{H:Hp}{s:Shared}{fp:List Addr}(I:Inv X pins σ H s)(hf:∀b∈fp,XV X pins H b)(ho:∀b∈fp,∃o,s.heap.get? b=some o/\∀v,o.data ≠ .cell v):Inv X (pins++VU fp s.heap) σ H s:=
 I.pins_of λp hp=>(List.mem_append.mp hp).elim (λz=>I.pin p (List.mem_append_right _ z)) λz=>by
  obtain⟨hb,e⟩:=Zb0 z;obtain⟨f0,f1,f2,_⟩:=hf p.1 hb;obtain⟨o,e',d⟩:=ho p.1 hb;rw [e]at e';cases e';exact⟨e,f0,f1,f2,d⟩
theorem Inv.unpinned{pins pl:List (Addr×Obj)}{σ:St}{H:Hp}{s:Shared}(I:Inv X (pins++pl) σ H s):Inv X pins σ H s:=I.pins_of λp hp=>I.pin p (List.mem_append_right _ (List.mem_append_left _ hp))
theorem Qj {iter:Expr} {body:List Stmt} {wi:TI} {g:TG} {tb:TS} {pos:Pos} (hp:PassesOwn (model X.prog X.w) X.A X.env X.xe) (hc:X.calm=true) (hi:PI X tg iter wi) (hg:PG X tg g) (hb:PSs X body tb)
 (hs:∀x,foldedSetIterable iter X.env x=pure x:=by intro _;rfl):PS X (.For tg iter body [] pos) (ZlT wi g tb):=by
 intro pins s σ H D I h;refine wpAny_For (thn (hi pins s σ H _ I h) λv s1 h1=>thn h1 λitv s2 h2 => ?_) hs;obtain⟨it,fp,tn,J,H2,e,I2,T,st2,f2,W,⟨m0,w0⟩,turn⟩:=h2;subst e;have stat:∀{H':Hp},(∀b∈fp,H' b=none)->∀b∈fp,XV X pins H' b:=λhn b hb=>⟨hn b hb,(f2 b hb).2⟩
 refine codeAny_forLoop_any (λn s'=>∃i σ' H',Inv X pins σ' H' s'/\tn i s'.heap/\(∀b∈fp,H' b=none)/\W i n σ' H') ?_ m0 ⟨0,σ,H2,I2,st2,λb hb=>(f2 b hb).1,w0⟩
 rintro n s3 ⟨i,σ3,H3,I3,st3,fr3,w3⟩
 rcases turn i n σ3 H3 w3 with⟨stop,qn⟩|⟨go,N,hN,step⟩
 · refine wpAny_passesOwn hp (thn (T.done X rfl rfl rfl hc i pins s3 σ3 H3 X.xe I3 (stat fr3) st3 stop) λr s4 ⟨hr,I4⟩ => ?_)
   subst hr;exact wpAny_execs_nil ⟨σ3,H3,I4,qn⟩
 · refine wpAny_passesOwn hp (thn (T.item X rfl rfl rfl hc i pins s3 σ3 H3 X.xe I3 (stat fr3) st3 go) λr s4 ⟨u,hr,h4⟩ => ?_)
   subst hr;refine wpAny_passesOwn hp (thn h4 λ_ s5 ⟨x,H5,I5,r5,y5,st5,fr5⟩ => ?_);have I5':=I5.pinned (stat fr5) (T.obj _ _ st5);refine wpAny_passesOwn hp (thn (hg _ s5 σ3 H5 x u _ I5' r5 (step x H5 y5)) λ_ s6 ⟨σ6,H6,I6,q6⟩ => ?_);refine wpAny_passesOwn hp (thn (hb _ s6 σ6 H6 _ I6 q6) λf s7 q7 => ?_)
   have again:∀{σ7:St}{H7:Hp},Inv X (pins++VU fp s5.heap) σ7 H7 s7->N σ7 H7->∃m,m<n/\∃i σ' H',Inv X pins σ' H' s7/\tn i s7.heap/\(∀b∈fp,H' b=none)/\W i m σ' H':=λ{σ7 H7} I7 n7=>by
    obtain⟨m',hm,w7⟩:=hN σ7 H7 n7;refine⟨m',hm,i+1,σ7,H7,I7.unpinned,T.keep _ _ _ st5 λb hb o e=>(I7.pin (b,o) (List.mem_append_right _ (List.mem_append_right _ (J9 hb e)))).1,λb hb => ?_,w7⟩;obtain⟨o,e,d⟩:=T.obj _ _ st5 b hb;exact(I7.pin (b,o) (List.mem_append_right _ (List.mem_append_right _ (J9 hb e)))).2.1
   cases f with
   |next=>obtain⟨σ7,H7,I7,n7⟩:=q7;exact again I7 n7
   |cont=>obtain⟨σ7,H7,I7,n7⟩:=q7;exact again I7 n7
   |brk=>obtain⟨σ7,H7,I7,q7⟩:=q7;exact⟨σ7,H7,I7.unpinned,q7⟩
   |ret v=>obtain⟨x7,σ7,H7,I7,r7,q7⟩:=q7;exact⟨x7,σ7,H7,I7.unpinned,r7,q7⟩
end
end L2
namespace L2
open PySem PySem.Spec PyProof.Rows
abbrev R2:=V->V->Hp->VK->Prop
def OpR(X:Cx)(f:Value->Value->Sem Value)(r:R2):Prop:=
 ∀(pins:List (Addr×Obj))(s:Shared)(σ:St)(H:Hp)(x y:V)(v u:Value)(Q:VK),Inv X pins σ H s->RelV x v->RelV y u->r x y H Q ->
  wpAny (model X.prog X.w) X.A (f v u) (EP X pins σ Q) X.xe s
def UnR(X:Cx)(f:Value->Sem Value)(r:V->Hp->VK->Prop):Prop:=
 ∀(pins:List (Addr×Obj))(s:Shared)(σ:St)(H:Hp)(x:V)(v:Value)(Q:VK),Inv X pins σ H s->RelV x v->r x H Q ->
  wpAny (model X.prog X.w) X.A (f v) (EP X pins σ Q) X.xe s
def Y9(X:Cx)(f:Value)(r:List V->Hp->VK->Prop):Prop:=
 ∀(pins:List (Addr×Obj))(s:Shared)(σ:St)(H:Hp)(xs:List V)(us:List Value)(Q:VK),Inv X pins σ H s->Vals xs us->r xs H Q ->
  wpAny (model X.prog X.w) X.A (call f us) (EP X pins σ Q) X.xe s
def tOp(r:R2)(ta tb:TE):TE:=λσ H Q=>ta σ H λx H1=>tb σ H1 λy H2=>r x y H2 Q
def tUn(r:V->Hp->VK->Prop)(ta:TE):TE:=λσ H Q=>ta σ H λx H1=>r x H1 Q
def rI(C:Int->Int->Prop)(g:Int->Int->V):R2:=λx y H Q=>∃i j,x = .int i/\y = .int j/\C i j/\Q (g i j) H
def rI0(g:Int->Int->V):R2:=λx y H Q=>∃i j,x = .int i/\y = .int j/\Q (g i j) H
def rU(g:Int->V):V->Hp->VK->Prop:=λx H Q=>∃i,x = .int i/\Q (g i) H
section
variable{X:Cx}{a b c:Expr}{ta tb tc:TE}{pos:Pos}
theorem ZjT (ha:PE X a ta) (hb:PE X b tb) {pins:List (Addr×Obj)} {s:Shared} {σ:St} {H:Hp} {R:V->V->Hp->Prop} (I:Inv X pins σ H s)
 (h:ta σ H λx H1=>tb σ H1 λy H2=>R x y H2) {Q:Value->Shared->Prop} {f:Value->Value->Sem Value}
 (hf:∀v u s2 x y H2,Inv X pins σ H2 s2->RelV x v->RelV y u->R x y H2->wpAny (model X.prog X.w) X.A (f v u) Q X.xe s2) :
 wpAny (model X.prog X.w) X.A (eval a X.env) (λv s₁=>wpAny (model X.prog X.w) X.A (eval b X.env) (λu s₂=>wpAny (model X.prog X.w) X.A (f v u) Q X.xe s₂) X.xe s₁) X.xe s:=by
 refine thn (ha pins s σ H _ I h) λv s1 ⟨x,H1,I1,r1,q1⟩ => ?_
 refine thn (hb pins s1 σ H1 _ I1 q1) λu s2 ⟨y,H2,I2,r2,q2⟩ => ?_
 exact hf v u s2 x y H2 I2 r1 r2 q2
theorem ZF{op:Operator}{r:R2}(ho:OpR X (binaryOp op) r)(ha:PE X a ta)(hb:PE X b tb):PE X (.BinOp a op b pos) (tOp r ta tb):=by
 intro pins s σ H Q I h;exact wpAny_BinOp (ZjT ha hb I h λv u s2 x y H2 I2 rx ry q=>ho pins s2 σ H2 x y v u Q I2 rx ry q)
theorem Zfk{op:UnaryOp}{r:V->Hp->VK->Prop}(ho:UnR X (unaryOp op) r)(ha:PE X a ta):PE X (.UnaryOp op a pos) (tUn r ta):=by
 intro pins s σ H Q I h;exact UnaryOp_ (thn (ha pins s σ H _ I h) λv s1 ⟨x,H1,I1,r1,q1⟩=>ho pins s1 σ H1 x v Q I1 r1 q1)
theorem opI {f:Value->Value->Sem Value} {C:Int->Int->Prop} {g:Int->Int->Int}
 (rule:∀(i j:Int)(t u:Tok)(s:Shared)(Q:Value->Shared->Prop)(E:Value->Shared->Prop),C i j->Q (.int (g i j) s.toks) { s with toks:=s.toks+1 }->wpAny (model X.prog X.w) X.A (f (.int i t) (.int j u)) Q E s) :
 OpR X f (rI C λi j => .int (g i j)):=by
 intro pins s σ H x y v u Q I rx ry h;obtain⟨i,j,rfl,rfl,hc,q⟩:=h;obtain⟨t,rfl⟩:=rx;obtain⟨t',rfl⟩:=ry;exact rule i j t t' s _ _ hc ⟨.int (g i j),H,I.tok _,⟨_,rfl⟩,q⟩
theorem ZlU {f:Value->Value->Sem Value} {g:Int->Int->Int}
 (rule:∀(i j:Int)(t u:Tok)(s:Shared)(Q:Value->Shared->Prop)(E:Value->Shared->Prop),Q (.int (g i j) s.toks) { s with toks:=s.toks+1 }->wpAny (model X.prog X.w) X.A (f (.int i t) (.int j u)) Q E s) :
 OpR X f (rI0 λi j => .int (g i j)):=by
 intro pins s σ H x y v u Q I rx ry h;obtain⟨i,j,rfl,rfl,q⟩:=h;obtain⟨t,rfl⟩:=rx;obtain⟨t',rfl⟩:=ry;exact rule i j t t' s _ _ ⟨.int (g i j),H,I.tok _,⟨_,rfl⟩,q⟩
theorem ZjU {f:Value->Value->Sem Value} {g:Int->Int->Bool}
 (rule:∀(i j:Int)(t u:Tok)(s:Shared)(Q:Value->Shared->Prop)(E:Value->Shared->Prop),Q (.bool (g i j)) s->wpAny (model X.prog X.w) X.A (f (.int i t) (.int j u)) Q E s) :
 OpR X f (rI0 λi j => .bl (g i j)):=by
 intro pins s σ H x y v u Q I rx ry h;obtain⟨i,j,rfl,rfl,q⟩:=h;obtain⟨t,rfl⟩:=rx;obtain⟨t',rfl⟩:=ry;exact rule i j t t' s _ _ ⟨.bl (g i j),H,I,rfl,q⟩
def Yb(i j:Int):Prop:=0<j/\j<1073741824
def ZlV(i j:Int):Prop:=0<=j/\j<=1000000/\i.natAbs<2 ^ 64
def CMul(i j:Int):Prop:=(-(2 ^ 64)<i/\i<2 ^ 64)\/(-(2 ^ 64)<j/\j<2 ^ 64)
theorem CMul.ok{i j:Int}(h:CMul i j):IntMulOk i j:=by
 rcases h with⟨h1,h2⟩|⟨h1,h2⟩
 · exact .of_left (intBits_le_64 h1 h2)
 · exact .of_right (intBits_le_64 h1 h2)
theorem op_add:OpR X (binaryOp .Add) (rI0 λi j => .int (i+j)):=ZlU λ_ _ _ _ _ _ _ q=>add_int q
theorem Q4:OpR X (binaryOp .Sub) (rI0 λi j => .int (i-j)):=ZlU λ_ _ _ _ _ _ _ q=>sub_int q
theorem op_mul:OpR X (binaryOp .Mult) (rI CMul λi j => .int (i*j)):=opI λ_ _ _ _ _ _ _ hc q=>mul_int q hc.ok
theorem Vs:OpR X (binaryOp .FloorDiv) (rI Yb λi j => .int (i / j)):=opI λi j _ _ _ _ _ hc q=>by
 have h1:(0:Int)<j:=hc.1;have h2:j<1073741824:=hc.2;exact floordiv_int (by omega) (by rw [Int.fdiv_eq_ediv_of_nonneg i (by omega)];exact q) (.inl (PyProof.noPylong_small (by omega)))
theorem YJ:OpR X (binaryOp .Mod) (rI (λ_ j=>0<j) λi j => .int (i % j)):=opI λi j _ _ _ _ _ hc q=>by
 have h1:(0:Int)<j:=hc;exact mod_int' (by omega) (by rw [Int.fmod_eq_emod_of_nonneg i (by omega)];exact q)
theorem unI {f:Value->Sem Value} {g:Int->Int}
 (rule:∀(i:Int)(t:Tok)(s:Shared)(Q:Value->Shared->Prop)(E:Value->Shared->Prop),Q (.int (g i) s.toks) { s with toks:=s.toks+1 }->wpAny (model X.prog X.w) X.A (f (.int i t)) Q E s) :
 UnR X f (rU λi => .int (g i)):=by
 intro pins s σ H x v Q I rx h;obtain⟨i,rfl,q⟩:=h;obtain⟨t,rfl⟩:=rx;exact rule i t s _ _ ⟨.int (g i),H,I.tok _,⟨_,rfl⟩,q⟩
theorem ZcX:UnR X (unaryOp .USub) (rU λi => .int (-i)):=unI λ_ _ _ _ _ q=>neg_int q
end
def VV:V->V->Bool
 | .non,.non=>true | .non,.int _=>true | .int _,.non=>true | .non,.bl _=>true | .bl _,.non=>true | .non,.str _=>true | .str _,.non=>true
 | .int _,.int _=>true | .bl _,.bl _=>true | .str _,.str _=>true | .byt _,.byt _=>true
 | .int _,.str _=>true | .str _,.int _=>true | .bl _,.str _=>true | .str _,.bl _=>true
 |_,_=>false
def rEq:R2:=λx y H Q=>VV x y=true/\Q (.bl (decide (x=y))) H
def rNe:R2:=λx y H Q=>VV x y=true/\Q (.bl (!decide (x=y))) H
theorem Zeh{i j:Int}:decide (V.int i=V.int j)=(i == j):=by
 rw [Bool.eq_iff_iff];simp
theorem Zgk{i j:Bool}:decide (V.bl i=V.bl j)=(i == j):=by
 rw [Bool.eq_iff_iff];simp
theorem Zei{i j:Str}:decide (V.str i=V.str j)=(i == j):=by
 rw [Bool.eq_iff_iff];simp
theorem Zej{i j:Array UInt8}:decide (V.byt i=V.byt j)=(i.toList == j.toList):=by
 rw [Bool.eq_iff_iff];cases i;cases j;simp
section
variable{X:Cx}{a b c:Expr}{ta tb tc:TE}{pos:Pos}
theorem Yt{pins:List (Addr×Obj)}{σ:St}{H:Hp}{s:Shared}{Q:VK}{k k':Bool}(I:Inv X pins σ H s)(q:Q (.bl k) H)(e:k=k'):EP X pins σ Q (.bool k') s:=by
 subst e;exact⟨.bl k,H,I,rfl,q⟩
theorem Zkv:OpR X (compareOp .Eq) rEq:=by
 intro pins s σ H x y v u Q I rx ry h;obtain⟨hs,q⟩:=h;cases x with
 |non=>
  cases rx;cases y with
  |non=>cases ry;exact PySem.EqNone.eq_none_none (Yt I q (by simp))
  |bl j=>cases ry;exact PySem.EqNone.eq_none_bool (Yt I q (by simp))
  |int j=>obtain⟨t',rfl⟩:=ry;exact PySem.EqNone.eq_none_int (Yt I q (by simp))
  |str j=>obtain⟨t',rfl⟩:=ry;exact PySem.EqNone.eq_none_str (Yt I q (by simp))
  |_=>exact absurd (show false=true from hs) Bool.false_ne_true
 |bl i=>
  cases rx;cases y with
  |non=>cases ry;exact PySem.EqNone.eq_bool_none (Yt I q (by simp))
  |bl j=>cases ry;exact eq_bool (Yt I q Zgk)
  |str j=>obtain⟨t',rfl⟩:=ry;exact PySem.EqMixed.eq_bool_str (Yt I q (by simp))
  |_=>exact absurd (show false=true from hs) Bool.false_ne_true
 |int i=>
  obtain⟨t,rfl⟩:=rx;cases y with
  |non=>cases ry;exact PySem.EqNone.eq_int_none (Yt I q (by simp))
  |int j=>obtain⟨t',rfl⟩:=ry;exact eq_int (Yt I q Zeh)
  |str j=>obtain⟨t',rfl⟩:=ry;exact PySem.EqMixed.eq_int_str (Yt I q (by simp))
  |_=>exact absurd (show false=true from hs) Bool.false_ne_true
 |str i=>
  obtain⟨t,rfl⟩:=rx;cases y with
  |non=>cases ry;exact PySem.EqNone.eq_str_none (Yt I q (by simp))
  |bl j=>cases ry;exact PySem.EqMixed.eq_str_bool (Yt I q (by simp))
  |int j=>obtain⟨t',rfl⟩:=ry;exact PySem.EqMixed.eq_str_int (Yt I q (by simp))
  |str j=>obtain⟨t',rfl⟩:=ry;exact eq_str (Yt I q Zei)
  |_=>exact absurd (show false=true from hs) Bool.false_ne_true
 |byt i=>
  obtain⟨t,rfl⟩:=rx;cases y with
  |byt j=>obtain⟨t',rfl⟩:=ry;exact PySem.W.eq_bytes (Yt I q Zej)
  |_=>exact absurd (show false=true from hs) Bool.false_ne_true
 |_=>cases y<;>exact absurd (show false=true from hs) Bool.false_ne_true
theorem Zkw:OpR X (compareOp .NotEq) rNe:=by
 intro pins s σ H x y v u Q I rx ry h;obtain⟨hs,q⟩:=h;cases x with
 |non=>
  cases rx;cases y with
  |non=>cases ry;exact PySem.EqNone.ne_none_none (Yt I q (by simp))
  |bl j=>cases ry;exact PySem.EqNone.ne_none_bool (Yt I q (by simp))
  |int j=>obtain⟨t',rfl⟩:=ry;exact PySem.EqNone.ne_none_int (Yt I q (by simp))
  |str j=>obtain⟨t',rfl⟩:=ry;exact PySem.EqNone.ne_none_str (Yt I q (by simp))
  |_=>exact absurd (show false=true from hs) Bool.false_ne_true
 |bl i=>
  cases rx;cases y with
  |non=>cases ry;exact PySem.EqNone.ne_bool_none (Yt I q (by simp))
  |bl j=>cases ry;exact ne_bool (Yt I q (congrArg not Zgk))
  |str j=>obtain⟨t',rfl⟩:=ry;exact PySem.EqMixed.ne_bool_str (Yt I q (by simp))
  |_=>exact absurd (show false=true from hs) Bool.false_ne_true
 |int i=>
  obtain⟨t,rfl⟩:=rx;cases y with
  |non=>cases ry;exact PySem.EqNone.ne_int_none (Yt I q (by simp))
  |int j=>obtain⟨t',rfl⟩:=ry;exact ne_int (Yt I q (congrArg not Zeh))
  |str j=>obtain⟨t',rfl⟩:=ry;exact PySem.EqMixed.ne_int_str (Yt I q (by simp))
  |_=>exact absurd (show false=true from hs) Bool.false_ne_true
 |str i=>
  obtain⟨t,rfl⟩:=rx;cases y with
  |non=>cases ry;exact PySem.EqNone.ne_str_none (Yt I q (by simp))
  |bl j=>cases ry;exact PySem.EqMixed.ne_str_bool (Yt I q (by simp))
  |int j=>obtain⟨t',rfl⟩:=ry;exact PySem.EqMixed.ne_str_int (Yt I q (by simp))
  |str j=>obtain⟨t',rfl⟩:=ry;exact ne_str (Yt I q (congrArg not Zei))
  |_=>exact absurd (show false=true from hs) Bool.false_ne_true
 |byt i=>
  obtain⟨t,rfl⟩:=rx;cases y with
  |byt j=>obtain⟨t',rfl⟩:=ry;exact PySem.W.ne_bytes (Yt I q (congrArg not Zej))
  |_=>exact absurd (show false=true from hs) Bool.false_ne_true
 |_=>cases y<;>exact absurd (show false=true from hs) Bool.false_ne_true
theorem Zfl:OpR X (compareOp .Lt) (rI0 λi j => .bl (decide (i<j))):=ZjU λ_ _ _ _ _ _ _ q=>lt_int q
theorem Q5:OpR X (compareOp .LtE) (rI0 λi j => .bl (decide (i<=j))):=ZjU λ_ _ _ _ _ _ _ q=>le_int q
theorem Zfm:OpR X (compareOp .Gt) (rI0 λi j => .bl (decide (j<i))):=ZjU λ_ _ _ _ _ _ _ q=>gt_int q
theorem ZeK:OpR X (compareOp .In) (λx y H Q=>∃i j,x = .str i/\y = .str j/\Q (.bl (!(Builtin.Str.occurrences j i 0 j.length 1).isEmpty)) H):=by
 intro pins s σ H x y v u Q I rx ry h;obtain⟨i,j,rfl,rfl,q⟩:=h;obtain⟨t,rfl⟩:=rx;obtain⟨t',rfl⟩:=ry;exact in_str (Yt I q rfl)
theorem OpR.or{f:Value->Value->Sem Value}{r r':R2}(h:OpR X f r)(h':OpR X f r'):OpR X f (λx y H Q=>r x y H Q\/r' x y H Q):=by
 intro pins s σ H x y v u Q I rx ry q;rcases q with q|q
 · exact h pins s σ H x y v u Q I rx ry q
 · exact h' pins s σ H x y v u Q I rx ry q
theorem Z2(b:Expr){op:CmpOp}(h:op ≠ .In:=by decide)(h2:op ≠ .NotIn:=by decide):behindInMarks op b=false:=by
 have e1:(op == CmpOp.In)=false:=by cases op<;>first|rfl|exact absurd rfl h
 have e2:(op == CmpOp.NotIn)=false:=by cases op<;>first|rfl|exact absurd rfl h2
 cases b<;>simp [behindInMarks,e1,e2]
theorem Vi{op:CmpOp}{r:R2}(ho:OpR X (compareOp op) r)(ha:PE X a ta)(hb:PE X b tb)(hm:behindInMarks op b=false):PE X (.Compare a [op] [b] pos) (tOp r ta tb):=by
 intro pins s σ H Q I h;exact wpAny_Compare1 (ZjT ha hb I h λv u s2 x y H2 I2 rx ry q=>ho pins s2 σ H2 x y v u Q I2 rx ry q) hm
def ZhR(t:TE):TT:=λσ H Q=>t σ H λx H'=>∃k,x = .bl k/\Q k H'
theorem Ye{op:CmpOp}{r:R2}(ho:OpR X (compareOp op) r)(ha:PE X a ta)(hb:PE X b tb)(hm:behindInMarks op b=false):PT X (.Compare a [op] [b] pos) (ZhR (tOp r ta tb)):=by
 intro pins s σ H Q I h
 refine wpAny_isTrue_Compare1 (thn (ha pins s σ H _ I h) λv s1 ⟨x,H1,I1,r1,q1⟩=>thn (hb pins s1 σ H1 _ I1 q1) λu s2 ⟨y,H2,I2,r2,q2⟩=>
  thn (ho pins s2 σ H2 x y v u _ I2 r1 r2 q2) λc s3 ⟨z,H3,I3,r3,k,e,q3⟩ => ?_) hm
 subst e;cases r3;exact wpAny_truthy_bool ⟨H3,I3,q3⟩
def Zgl(r r':R2)(ta tb tc:TE):TE:=λσ H Q=>ta σ H λx H1=>tb σ H1 λy H2=>r x y H2 λz H3=>∃k,z = .bl k /\
 (if k=true then tc σ H3 λw' H4=>r' y w' H4 Q else Q (.bl false) H3)
theorem Zc9 {op op':CmpOp} {r r':R2} (ho:OpR X (compareOp op) r) (ho':OpR X (compareOp op') r') (ha:PE X a ta) (hb:PE X b tb) (hc:PE X c tc)
 (hm:lastMarks [op,op'] [b,c]=false:=by with_unfolding_all rfl):PE X (.Compare a [op,op'] [b,c] pos) (Zgl r r' ta tb tc):=by
 intro pins s σ H Q I h
 refine Compare_chain (thn (ha pins s σ H _ I h) λv s1 ⟨x,H1,I1,r1,q1⟩=>chain_link (thn (hb pins s1 σ H1 _ I1 q1) λu s2 ⟨y,H2,I2,r2,q2⟩=>
  thn (ho pins s2 σ H2 x y v u _ I2 r1 r2 q2) λd s3 ⟨z,H3,I3,r3,k,e,q3⟩ => ?_)) hm
 subst e;cases r3;refine wpAny_truthy_bool ?_;cases k with
 |false=>exact ite_ff ⟨.bl false,H3,I3,rfl,q3⟩
 |true=>exact ite_tt (chain_last (thn (hc pins s3 σ H3 _ I3 q3) λw' s4 ⟨z',H4,I4,r4,q4⟩=>ho' pins s4 σ H4 y z' u w' Q I4 r2 r4 q4))
theorem Q6:(sizeLine:Nat)<2 ^ 63:=by rw [sizeLine_eq];decide
theorem ZdF:OpR X (binaryOp .Add) (λx y H Q=>∃i j,x = .str i/\y = .str j/\i.length+j.length<=sizeLine/\Q (.str (i++j)) H):=by
 intro pins s σ H x y v u Q I rx ry h;obtain⟨i,j,rfl,rfl,hz,q⟩:=h;obtain⟨t,rfl⟩:=rx;obtain⟨t',rfl⟩:=ry;exact add_str (λt' tk=>⟨.str (i++j),H,I.tok _,⟨_,rfl⟩,q⟩) hz
theorem Xf{x:V}{us:List Value}(r:Vals [x] us):∃u,us=[u]/\RelV x u:=by
 cases r with
 |cons r1 r2=>cases r2;exact⟨_,rfl,r1⟩
theorem ZgM{x y:V}{us:List Value}(r:Vals [x,y] us):∃u w',us=[u,w']/\RelV x u/\RelV y w':=by
 cases r with
 |cons r1 r2=>
  cases r2 with
  |cons r3 r4=>cases r4;exact⟨_,_,rfl,r1,r3⟩
theorem ZeL(hc:X.calm=true):Y9 X (.builtin "min") (λxs H Q=>∃i j,xs=[.int i,.int j]/\Q (.int (if j<i then j else i)) H):=by
 intro pins s σ H xs us Q I r h;obtain⟨i,j,rfl,q⟩:=h;obtain⟨u,w',rfl,⟨t,rfl⟩,⟨t',rfl⟩⟩:=ZgM r;refine min_two_ints (I.ok.hd hc) λh' tk k=>⟨_,H,I.kept k,?_,q⟩
 by_cases hj:j<i
 · rw [if_pos hj,if_pos hj];exact⟨_,rfl⟩
 · rw [if_neg hj,if_neg hj];exact⟨_,rfl⟩
theorem ZeM:Y9 X (.type "int") (λxs H Q=>(∃i,xs=[.int i]/\Q (.int i) H)\/∃k,xs=[.bl k]/\Q (.int (if k then 1 else 0)) H):=by
 intro pins s σ H xs us Q I r h;rcases h with⟨i,rfl,q⟩|⟨k,rfl,q⟩
 · obtain⟨u,rfl,t,rfl⟩:=Xf r
   exact call_int_int ⟨.int i,H,I,⟨_,rfl⟩,q⟩
 · obtain⟨u,rfl,r1⟩:=Xf r
   cases r1;exact call_int_bool ⟨.int (if k then 1 else 0),H,I.tok _,⟨_,rfl⟩,q⟩
theorem Zcl:Y9 X (.type "str") (λxs H Q=>∃i,xs=[.int i]/\i.natAbs.log2<1920/\Q (.str (toString i)) H):=by
 intro pins s σ H xs us Q I r h;obtain⟨i,rfl,hz,q⟩:=h;obtain⟨u,rfl,t,rfl⟩:=Xf r;exact PySem.P.str_of_int hz ⟨.str _,H,I.tok _,⟨_,rfl⟩,q⟩
end
end L2
namespace L2
open PySem PySem.Spec PyProof.Rows
structure ObjM(h:Heap)(x dx C:Addr)(mA:Str->Option Value):Prop where
 obj:h.get? x=some (instObj C dx)
 ns:h.Ns1 dx mA
 ne:dx≠x
theorem ZeN{h:Heap}{dx:Addr}{mA:Str->Option Value}(n:h.Ns1 dx mA):∃od,h.get? dx=some od/\∀name,PySem.W.lookIn name od=some (mA name):=by
 obtain⟨o,es,ep,ho,hd,hk,_,hm⟩:=n;refine⟨o,ho,λname => ?_⟩;have e:=hm name;unfold nsFind findBy at e;rw [<-Array.find?_toList]at e;unfold PySem.W.lookIn;rw [hd];dsimp only
 split
 · rename_i y q
   rw [q]at e;exact congrArg some e
 · rename_i q
   rw [q]at e
   have a:es.toList.any (·.refKey)=false:=by
    rw [List.any_eq_false];intro y hy;obtain⟨z,t,hkey⟩:=hk y (Array.mem_toList_iff.mp hy);simp [DictEntry.refKey,hkey]
   have a':¬es.toList.any (·.refKey)=true:=by rw [a];exact Bool.false_ne_true
   rw [if_neg a'];exact congrArg some e
theorem ObjM.look{h:Heap}{x dx C:Addr}{mA:Str->Option Value}(I:ObjM h x dx C mA):∃od,PySem.W.InstAt h x (instObj C dx) C (some od)/\∀name,PySem.W.lookIn name od=some (mA name):=
 let⟨od,ho,hl⟩:=ZeN I.ns
 ⟨od,⟨I.obj,rfl,rfl,ho⟩,hl⟩
section
variable{prog:Program}{w:World}{A:Around}{E:Value->Shared->Prop}{s:Shared}{K:PySem.W.Frag}{x dx C f:Addr}{mA:Str->Option Value}{name:Str}{v:Value}
theorem ZgZ {expr:Bool} {Q:Value->Shared->Prop} (X:K.In s.heap) (I:ObjM s.heap x dx C mA) (hg:PySem.W.plainGet K C name=true) (hh:PySem.W.hasDictIn K C=true)
 (ha:PySem.W.findIn K (.ref C) name=some none) (hv:mA name=some v) (hv':PySem.W.handedIn v=true) (h:Q v { s with toks:=s.toks+1 }) :
 wpAny (model prog w) A (getAttr (.ref x) name expr) Q E s:=by
 obtain⟨od,J,hl⟩:=I.look;exact PySem.W.get_value X J (PySem.W.plainGet_of hg).1 (PySem.W.findObj_own hh ha rfl (by rw [hl,hv])) hv' h
theorem Zfy {pl:Sem Bool} {Q:Value×List Value->Shared->Prop} (X:K.In s.heap) (I:ObjM s.heap x dx C mA) (hg:PySem.W.plainGet K C name=true)
 (hf:PySem.W.findIn K (.ref C) name=some (some (.ref f))) (ht:isFn K (.ref f)=true) (hv:mA name=none) (h:Q (.ref f,[.ref x]) s) :
 wpAny (model prog w) A (getMethod (.ref x) name pl) Q E s:=by
 obtain⟨od,J,hl⟩:=I.look;exact PySem.W.method_fn X J (PySem.W.plainGet_of hg).1 (PySem.W.plainGet_of hg).2 hf (beq_iff_eq.mp ht) (by show(PySem.W.lookIn name od).map (·.isSome)=some false;rw [hl,hv];rfl) h
theorem Zg0 {ns:List Str} {Q:Unit->Shared->Prop} (X:K.In s.heap) (I:ObjM s.heap x dx C mA)
 (hs:PySem.W.findIn K (.ref C) "__setattr__" = some (some (.builtin "object.__setattr__"))) (hp:PySem.W.plainOver K C=true) (ht:PySem.W.takerIn K C name=some none) (hh:PySem.W.hasDictIn K C=true)
 (hw:PySem.Within mA ns) (hsz:ns.length<=sizeLine)
 (h:∀h',ObjM h' x dx C (λy=>if y=name then some v else mA y)->Heap.SameBut dx s.heap h'->Q () { s with heap:=h',toks:=s.toks+2 }) :
 wpAny (model prog w) A (setAttr (.ref x) name v) Q E s:=by
 obtain⟨od,J,hl⟩:=I.look;refine PySem.W.set_plain X J hs (PySem.W.osa_open (s:={ s with toks:=s.toks+1 }) (r:=none) X J hp ht λb => ?_);obtain⟨cd,hc,hd'⟩:=PySem.W.any_some hh;have hx:s.heap.get? x=some ⟨.ref C,some dx,.plain,#[]⟩:=I.obj;refine wpAny_bind (wpAny_pure (wpAny_bind (wpAny_bind (wpAny_loadPart hx (wpAny_bind (PySem.W.Looks.here (s:={ s with toks:=s.toks+1 }) (PySem.W.looks_clsIn X hc) ?_))))))
 rw [hd'];refine wpAny_pure (a:=some dx) (wpAny_bind (wpAny_pure (wpAny_bind ?_)));refine wpAny_nsSet1 (s:={ s with toks:=s.toks+1 }) I.ns λh' hn2 hs2 => ?_
 obtain⟨oD,esD,epD,hoD,hdD,hcD⟩:=hn2.count (PySem.Within.cons name v hw);refine wpAny_bind (wpAny_lookBehind hoD (by rw [hdD];exact pastItsLine_dict (Nat.le_trans hcD (by rw [List.length_cons];omega))) ?_);exact wpAny_pure (h _ ⟨(hs2.2 _ (Ne.symm I.ne)).trans I.obj,hn2,I.ne⟩ hs2)
theorem Zfz {R:Result->Shared->Prop} {vs:List Value} {kw:List (Str×Value)} (X:K.In s.heap) (hm:PySem.W.makesIn K C=true)
 (hi:PySem.W.findIn K (.ref C) "__init__" = some (some (.ref f))) (hf:PySem.W.typeIn K (.ref f)=some (.type "function"))
 (h:codeAny (model prog w) (A.under (.builtin "type.__call__" ⟨.ref C::vs,kw⟩)) (.call (.ref f) ⟨.ref (s.heap.objs.size+1)::vs,kw⟩) (PySem.W.InitBack (s.heap.objs.size+1) R)
   { s with heap:=(s.heap.push emptyDict).push (instObj C s.heap.objs.size) }) :
 codeAny (model prog w) A (.call (.ref C) ⟨vs,kw⟩) R s:=by
 obtain⟨hh,g,d,t,os⟩:=s;exact PySem.W.make_core (PySem.W.makes_of X hm) (PySem.W.looks_findIn X hi) (λself=>PySem.W.bind_fn X self hf) (.inl rfl) h
end
def Xg(f:Str)(v:V):List (Str×V)->List (Str×V)
 | []=>[(f,v)]
 |(g,x)::r=>if g=f then(g,v)::r else(g,x)::Xg f v r
theorem Zbb(f g:Str)(v:V):∀fs:List (Str×V),(Xg f v fs).lookup g=if g=f then some v else fs.lookup g
 | []=>by
  show List.lookup g [(f,v)]=_
  by_cases h:g=f
  · have hb:(g == f)=true:=beq_iff_eq.mpr h
    simp only [List.lookup,hb,if_pos h]
  · have hb:(g == f)=false:=beq_eq_false_iff_ne.mpr h
    simp only [List.lookup,hb,if_neg h]
 |(k,x)::r=>by
  have ih:=Zbb f g v r;rw [show Xg f v ((k,x)::r)=(if k=f then(k,v)::r else(k,x)::Xg f v r)from rfl]
  by_cases hk:k=f
  · rw [if_pos hk]
    by_cases h:g=k
    · have hb:(g == k)=true:=beq_iff_eq.mpr h
      simp only [List.lookup,hb,if_pos (h.trans hk)]
    · have hb:(g == k)=false:=beq_eq_false_iff_ne.mpr h
      simp only [List.lookup,hb,if_neg (λe:g=f=>h (e.trans hk.symm))]
  · rw [if_neg hk]
    by_cases h:g=k
    · have hb:(g == k)=true:=beq_iff_eq.mpr h
      simp only [List.lookup,hb,if_neg (λe:g=f=>hk (h.symm.trans e))]
    · have hb:(g == k)=false:=beq_eq_false_iff_ne.mpr h
      simp only [List.lookup,hb];exact ih
theorem Za0(f:Str)(v:V):∀fs:List (Str×V),f∈(Xg f v fs).map (·.1)/\∀g,g∈fs.map (·.1)->g∈(Xg f v fs).map (·.1)
 | []=>⟨by simp [Xg],λg h=>by simp at h⟩
 |(k,x)::r=>by
  obtain⟨i1,i2⟩:=Za0 f v r;rw [show Xg f v ((k,x)::r)=(if k=f then(k,v)::r else(k,x)::Xg f v r)from rfl]
  by_cases hk:k=f
  · rw [if_pos hk]
    subst hk;exact⟨by simp,λg h=>by simpa using h⟩
  · rw [if_neg hk]
    refine⟨?_,λg h => ?_⟩
    · rw [List.map_cons]
      exact List.mem_cons_of_mem _ i1
    · rw [List.map_cons]at h ⊢
      rcases List.mem_cons.mp h with e|e
      · exact List.mem_cons.mpr (.inl e)
      · exact List.mem_cons_of_mem _ (i2 g e)
theorem Zbc(f:Str)(v:V):∀fs:List (Str×V),(Xg f v fs).length<=fs.length+1
 | []=>by simp [Xg]
 |(k,x)::r=>by
  have ih:=Zbc f v r;rw [show Xg f v ((k,x)::r)=(if k=f then(k,v)::r else(k,x)::Xg f v r)from rfl]
  by_cases hk:k=f
  · rw [if_pos hk,List.length_cons,List.length_cons];omega
  · rw [if_neg hk,List.length_cons,List.length_cons];omega
theorem RelO.some_of{v:V}{o:Option Value}(r:RelO (some v) o):∃u,o=some u/\RelV v u:=by
 cases o with
 |none=>exact(show False from r).elim
 |some u=>exact⟨u,rfl,r⟩
theorem RelO.none_of{o:Option Value}(r:RelO none o):o=none:=by
 cases o with
 |none=>rfl
 |some u=>exact(show False from r).elim
theorem ZeO{v:V}{u:Value}(r:RelV v u):PySem.W.handedIn u=true:=by
 cases v with
 |non=>cases(show u=Value.none from r);rfl
 |bl b=>cases(show u=Value.bool b from r);rfl
 |int i=>obtain⟨t,e⟩:=(show ∃t,u=Value.int i t from r);cases e;rfl
 |str x=>obtain⟨t,e⟩:=(show ∃t,u=Value.str x t from r);cases e;rfl
 |byt b=>obtain⟨t,e⟩:=(show ∃t,u=Value.bytes b t from r);cases e;rfl
 |flt b=>obtain⟨t,e⟩:=(show ∃t,u=Value.float b t from r);cases e;rfl
 |ref a=>cases(show u=Value.ref a from r);rfl
 |ty n=>cases(show u=Value.type n from r);rfl
section
variable{P:Program}{w:World}{H H':Hp}{h h':Heap}{a C dx:Addr}{fs fs':List (Str×V)}
theorem ZbE(hok:HOk P w H h)(e:H a=some (.ins C dx fs)):∃mA,ObjM h a dx C mA/\(∀f,RelO (fs.lookup f) (mA f))/\PySem.Within mA (fs.map (·.1))/\fs.length<=1000/\H dx=some (.own a):=by
 obtain⟨d,z,ne,ob,mA,n,r,q⟩:=(show ObjOk P w H h a (.ins C dx fs)from hok a _ e)
 exact⟨mA,⟨ob,n,ne⟩,r,q,z,d⟩
end
structure Cls(K:PySem.W.Frag)(C:Addr):Prop where
 pg:PySem.W.plainGet K C Str.empty=true
 hd:PySem.W.hasDictIn K C=true
 po:PySem.W.plainOver K C=true
 sa:PySem.W.findIn K (.ref C) "__setattr__" = some (some (.builtin "object.__setattr__"))
theorem Cls.get{K:PySem.W.Frag}{C:Addr}(c:Cls K C)(f:Str):PySem.W.plainGet K C f=true:=c.pg
def NoAttr(K:PySem.W.Frag)(C:Addr)(f:Str):Prop:=PySem.W.findIn K (.ref C) f=some none
theorem NoAttr.taker{K:PySem.W.Frag}{C:Addr}{f:Str}(n:NoAttr K C f):PySem.W.takerIn K C f=some none:=by
 unfold PySem.W.takerIn;rw [show PySem.W.findIn K (.ref C) f=some none from n];rfl
structure Con(K:PySem.W.Frag)(C:Addr)(f:Str)(v:V)(u:Value):Prop where
 at_:PySem.W.findIn K (.ref C) f=some (some u)
 rel:RelV v u
 get:PySem.W.specialIn K u "__get__" = some none
 cp:PySem.W.copiedNames.contains f=false
structure Meth(K:PySem.W.Frag)(C:Addr)(m:Str)(f:Addr):Prop where
 at_:PySem.W.findIn K (.ref C) m=some (some (.ref f))
 fn:isFn K (.ref f)=true
 kp:keepIn K (.ref f)=true
section
variable{X:Cx}{pins:List (Addr×Obj)}{σ:St}{H:Hp}{s:Shared}{a C dx:Addr}{fs:List (Str×V)}{f:Str}{v:V}{A:Around}{E:Value->Shared->Prop}
theorem ZdG {b:Bool} {Q:Value->Shared->Prop} (I:Inv X pins σ H s) (e:H a=some (.ins C dx fs)) (c:Cls X.K C) (n:NoAttr X.K C f) (l:fs.lookup f=some v)
 (h:∀u s',Inv X pins σ H s'->RelV v u->Q u s'):wpAny (model X.prog X.w) A (getAttr (.ref a) f b) Q E s:=by
 obtain⟨mA,O,r,_,_,_⟩:=ZbE I.hok e;obtain⟨u,hu,ru⟩:=RelO.some_of (v:=v) (o:=mA f) (by rw [<-l];exact r f);exact ZgZ I.kIn O (c.get f) c.hd n hu (ZeO ru) (h u _ (I.tok _) ru)
theorem ZdH {m:Str} {g:Addr} {pl:Sem Bool} {Q:Value×List Value->Shared->Prop} (I:Inv X pins σ H s) (e:H a=some (.ins C dx fs)) (c:Cls X.K C) (k:Meth X.K C m g) (l:fs.lookup m=none)
 (h:Q (.ref g,[.ref a]) s):wpAny (model X.prog X.w) A (getMethod (.ref a) m pl) Q E s:=by
 obtain⟨mA,O,r,_,_,_⟩:=ZbE I.hok e;have hn:mA m=none:=RelO.none_of (by rw [<-l];exact r m);exact Zfy I.kIn O (c.get m) k.at_ k.fn hn h
theorem ZdI {y:V} {u:Value} {Q:Unit->Shared->Prop} (I:Inv X pins σ H s) (e:H a=some (.ins C dx fs)) (c:Cls X.K C) (n:NoAttr X.K C f) (hl:fs.length<1000) (ry:RelV y u)
 (h:∀s',Inv X pins σ (upd H a (.ins C dx (Xg f y fs))) s'->Q () s'):wpAny (model X.prog X.w) A (setAttr (.ref a) f u) Q E s:=by
 obtain⟨mA,O,r,wi,_,ho⟩:=ZbE I.hok e;have hz:(fs.map (·.1)).length<=sizeLine:=by rw [List.length_map,sizeLine_eq];omega
 refine Zg0 I.kIn O c.sa c.po n.taker c.hd wi hz λh' O' sb=>h _ ?_
 have hd:∃o,h'.get? dx=some o:=let⟨o,_,_,e',_⟩:=O'.ns;⟨o,e'⟩
 refine I.write (x:=a) (e:=dx) (by rw [e];exact True.intro) (.inr ho) (λb q hb z=>(sb.2 b hb).trans z) hd ?_;refine⟨by rw [Zx O.ne];exact ho,?_,O.ne,O'.obj,_,O'.ns,λg => ?_,λg hg => ?_⟩
 · have:=Zbc f y fs;omega
 · show RelO ((Xg f y fs).lookup g) (if g=f then some u else mA g)
   rw [Zbb]
   by_cases q:g=f
   · rw [if_pos q,if_pos q];exact ry
   · rw [if_neg q,if_neg q];exact r g
 · by_cases q:g=f
   · rw [q];exact(Za0 f y fs).1
   · refine(Za0 f y fs).2 g (wi g λz=>hg ?_)
     show(if g=f then some u else mA g)=none;rw [if_neg q];exact z
theorem Inv.made(I:Inv X pins σ H s):Inv X pins σ (upd (upd H s.heap.objs.size (.own (s.heap.objs.size+1))) (s.heap.objs.size+1) (.ins C s.heap.objs.size []))
 { s with heap:=(s.heap.push emptyDict).push (instObj C s.heap.objs.size) }:=by
 have e1:(s.heap.push emptyDict).get? s.heap.objs.size=some emptyDict:=Heap.get?_push_size s.heap rfl
 have e2:((s.heap.push emptyDict).push (instObj C s.heap.objs.size)).get? (s.heap.objs.size+1)=some (instObj C s.heap.objs.size):=by
  have:=Heap.get?_push_size (s.heap.push emptyDict) (o:=instObj C s.heap.objs.size) rfl
  rwa [Heap.size_push]at this
 have e3:(s.heap.push emptyDict).Ns s.heap.objs.size (λ_=>none):=⟨emptyDict,#[],_,e1,rfl,(λe he=>absurd he (by simp)),λ_=>rfl⟩
 have I1:=I.laid (a:=s.heap.objs.size) (o:=.own (s.heap.objs.size+1)) (h':=s.heap.push emptyDict) (t':=s.toks) (λb u q=>Heap.get?_push_of_some _ q) (Nat.le_refl _) ⟨_,e1⟩;refine I1.laid (a:=s.heap.objs.size+1) (o:=.ins C s.heap.objs.size []) (t':=s.toks) (λb u q=>Heap.get?_push_of_some _ q) (Nat.le_of_eq (Heap.size_push _ _)) ?_;have ne:s.heap.objs.size≠s.heap.objs.size+1:=Nat.ne_of_lt (Nat.lt_succ_self _)
 refine⟨by rw [Zx ne,Yo],Nat.zero_le _,ne,e2,λ_=>none,(Heap.Ns1.of_empty e3).at λo q=>Heap.get?_push_of_some _ q,λ_=>True.intro,λy hy=>absurd rfl hy⟩
theorem Zg1 {prog:Program} {w:World} {env:Env} {e:Expr} {f:Str} {pos:Pos} {s:Shared} {Q:Value->Shared->Prop} (hb:attributeBase e f env (eval e env)=eval e env)
 (h:wpAny (model prog w) A (eval e env) (λo s₁=>wpAny (model prog w) A (getAttr o f true) Q E s₁) E s):wpAny (model prog w) A (eval (.Attribute e f pos) env) Q E s:=
 Attribute_any_ h (by rw [arm_eval_Attribute,hb])
end
def ZjV(K:PySem.W.Frag)(ta:TE)(f:Str):TE:=λσ H Q=>ta σ H λx H1=>∃a C dx fs v,x = .ref a/\H1 a=some (.ins C dx fs)/\Cls K C/\NoAttr K C f/\fs.lookup f=some v/\Q v H1
def ZlW(K:PySem.W.Frag)(ta tv:TE)(f:Str):TS:=λD σ H=>tv σ H λy H1=>ta σ H1 λx H2=>∃a C dx fs,x = .ref a/\H2 a=some (.ins C dx fs)/\Cls K C/\NoAttr K C f/\fs.length<1000 /\
 D.nx σ (upd H2 a (.ins C dx (Xg f y fs)))
section
variable{X:Cx}{o e value:Expr}{f:Str}{pos pos' tpos:Pos}{ta tv:TE}
theorem Zio(he:PE X e ta)(hb:attributeBase e f X.env (eval e X.env)=eval e X.env):PE X (.Attribute e f pos) (ZjV X.K ta f):=by
 intro pins s σ H Q I h;refine Zg1 hb (thn (he pins s σ H _ I h) λu s1 ⟨x,H1,I1,rx,a,C,dx,fs,v,ex,ea,c,n,l,q⟩ => ?_);subst ex;obtain rfl:u=Value.ref a:=rx;exact ZdG I1 ea c n l λu' s2 I2 ru=>⟨v,H1,I2,ru,q⟩
theorem X5(ha:PE X o ta)(hv:PE X value tv)(hs:swapsWith value (some (.Attribute o f pos')) pos.line X.env=pure false):PS X (.Assign [.Attribute o f pos'] value pos) (ZlW X.K ta tv f):=by
 intro pins s σ H D I h;refine plainObj_wpAny_Assign_Attribute (thn (hv pins s σ H _ I h) λu s1 ⟨y,H1,I1,ry,q⟩=>thn (ha pins s1 σ H1 _ I1 q) λov s2 ⟨x,H2,I2,rx,a,C,dx,fs,ex,ea,c,n,l,q2⟩ => ?_) hs;subst ex;obtain rfl:ov=Value.ref a:=rx;exact ZdI I2 ea c n l ry λs3 I3=>⟨σ,_,I3,q2⟩
end
section
variable{X:Cx}{pins:List (Addr×Obj)}{σ:St}{H:Hp}{s:Shared}{A:Around}{E:Value->Shared->Prop}{Q:Value->Shared->Prop}{c:Value}{b:Bool}
inductive TyOf(K:PySem.W.Frag)(H:Hp):V->Value->Prop where
 |non:TyOf K H .non (.type "NoneType")
 |bl (x:Bool):TyOf K H (.bl x) (.type "bool")
 |int (i:Int):TyOf K H (.int i) (.type "int")
 |str (x:Str):TyOf K H (.str x) (.type "str")
 |flt (x:UInt64):TyOf K H (.flt x) (.type "float")
 |lst {a:Addr} {xs:List V} (e:H a=some (.lst xs)):TyOf K H (.ref a) (.type "list")
 |frz {a:Addr} {o:Obj} {xs:List V} (e:H a=some (.frz o (.lst xs))):TyOf K H (.ref a) (.type "list")
 |tup {a:Addr} {xs:List V} (e:H a=some (.tup xs)):TyOf K H (.ref a) (.type "tuple")
 |dK {a:Addr} {kvs:List (Key×V)} (e:H a=some (.dK kvs)):TyOf K H (.ref a) (.type "dict")
 |dT {a:Addr} {kvs:List (List Key×V)} (e:H a=some (.dT kvs)):TyOf K H (.ref a) (.type "dict")
 |ins {a C dx:Addr} {fs:List (Str×V)} (e:H a=some (.ins C dx fs)) (cl:Cls K C) (ha:PySem.W.findIn K (.ref C) "__class__" = some (some (.builtin "object.__class__")))
  (hn:PySem.W.specialIn K (.builtin "object.__class__") "__get__" = some (some (.builtin "getset_descriptor.__get__"))) (htk:PySem.W.takesIn K (.builtin "object.__class__")=some true)
  (hm:PySem.W.mroIn K C (.type "object")=some true):TyOf K H (.ref a) (.ref C)
theorem ZeP{x:V}{u t:Value}(I:Inv X pins σ H s)(rx:RelV x u)(ty:TyOf X.K H x t)(e:kitOne X.K t c=some b)(h:∀tk,Q (.bool b) { s with toks:=tk }) :
 wpAny (model X.prog X.w) A (call (.builtin "isinstance") [u,c]) Q E s:=by
 cases ty with
 |non=>cases(show u=Value.none from rx);exact PySem.W.kia_one PySem.W.kitx_none I.kIn True.intro e (λz=>nomatch z) h
 |bl y=>cases(show u=Value.bool y from rx);exact PySem.W.kia_one PySem.W.kitx_bool I.kIn True.intro e (λz=>nomatch z) h
 |int i=>obtain⟨t,q⟩:=(show ∃t,u=Value.int i t from rx);cases q;exact PySem.W.kia_one PySem.W.kitx_int I.kIn True.intro e (λz=>nomatch z) h
 |str y=>obtain⟨t,q⟩:=(show ∃t,u=Value.str y t from rx);cases q;exact PySem.W.kia_one PySem.W.kitx_str I.kIn True.intro e (λz=>nomatch z) h
 |flt y=>obtain⟨t,q⟩:=(show ∃t,u=Value.float y t from rx);cases q;exact PySem.W.kia_one PySem.W.kitx_float I.kIn True.intro e (λz=>nomatch z) h
 | @lst a xs ea=>
  cases(show u=Value.ref a from rx);obtain⟨_,_,n,_,h1⟩:=(show ObjOk X.prog X.w H s.heap a (.lst xs)from I.hok a _ ea)
  exact PySem.W.kia_one PySem.W.kitx_list I.kIn ⟨_,h1,rfl⟩ e (λz=>nomatch z) h
 | @frz a ob xs ea=>
  cases(show u=Value.ref a from rx);obtain⟨_,_,_,n,_,h1⟩:=(show ObjOk X.prog X.w H s.heap a (.frz ob (.lst xs))from I.hok a _ ea)
  exact PySem.W.kia_one PySem.W.kitx_list I.kIn ⟨_,h1,rfl⟩ e (λz=>nomatch z) h
 | @tup a xs ea=>
  cases(show u=Value.ref a from rx);obtain⟨_,_,_,p⟩:=(show ObjOk X.prog X.w H s.heap a (.tup xs)from I.hok a _ ea)
  obtain⟨o,h1,h2,_⟩:=p;exact PySem.W.kia_one PySem.W.kitx_tuple I.kIn ⟨o,h1,h2⟩ e (λz=>nomatch z) h
 | @dK a kvs ea=>
  cases(show u=Value.ref a from rx);obtain⟨_,_,vs,_,p⟩:=(show ObjOk X.prog X.w H s.heap a (.dK kvs)from I.hok a _ ea)
  obtain⟨o,es,ep,h1,h2,_⟩:=p;exact PySem.W.kia_one PySem.W.kitx_dict I.kIn ⟨o,h1,h2.1⟩ e (λz=>nomatch z) h
 | @dT a kvs ea=>
  cases(show u=Value.ref a from rx);obtain⟨_,_,xs,_,o,es,ep,h1,h2,_⟩:=(show ObjOk X.prog X.w H s.heap a (.dT kvs)from I.hok a _ ea)
  exact PySem.W.kia_one PySem.W.kitx_dict I.kIn ⟨o,h1,h2.1⟩ e (λz=>nomatch z) h
 | @ins a C dx fs ea cl ha hn htk hm=>
  cases(show u=Value.ref a from rx);obtain⟨mA,O,_⟩:=ZbE I.hok ea;obtain⟨od,J,_⟩:=O.look;exact PySem.W.kia_one (PySem.W.kitx_own (cl.get _) cl.hd ha hn htk hm) I.kIn J e (λz=>nomatch z) h
end
end L2
namespace L2
open PySem PySem.Spec PyProof.Rows
structure Room(k:Nat)(A:Around):Prop where
 hd:A.handled=none
 dp:A.depth+3*k+5<recursionLimit
 un:A.units+16*k+200<cLine
theorem Room.mono{j k:Nat}{A:Around}(r:Room k A)(h:j<=k):Room j A:=⟨r.hd,by have:=r.dp;omega,by have:=r.un;omega⟩
theorem Room.deeper{k:Nat}{A:Around}(r:Room (k+1) A)(env:Env):Room k (A.deeper env):=
 ⟨r.hd,by have:=r.dp;show A.depth+1+3*k+5<_;omega,by have:=r.un;show A.units+3+16*k+200<_;omega⟩
theorem ZdJ{A:Around}{C:Addr}{us:List Value}{kw:List (Str×Value)}:(A.under (.builtin "type.__call__" ⟨.ref C::us,kw⟩)).depth=A.depth+1:=by
 first|rfl|simp [Around.under,Code.weight,Code.isCreation,Code.isGuard,Code.isCaller,Code.frames,Code.isFrame,guardIds]
theorem ZdK{A:Around}{C:Addr}{us:List Value}{kw:List (Str×Value)}:(A.under (.builtin "type.__call__" ⟨.ref C::us,kw⟩)).units=A.units+1:=by
 first|rfl|simp [Around.under,Code.cUnits,Code.frames,Code.isFrame]
theorem Room.make{k:Nat}{A:Around}(r:Room (k+1) A)(C:Addr)(us:List Value)(kw:List (Str×Value)):Room k (A.under (.builtin "type.__call__" ⟨.ref C::us,kw⟩)):=
 ⟨r.hd,by have:=r.dp;rw [ZdJ];omega,by have:=r.un;rw [ZdK];omega⟩
theorem Room.depth{k:Nat}{A:Around}(r:Room k A):A.depth<recursionLimit:=by have:=r.dp;omega
theorem Room.units{k:Nat}{A:Around}(r:Room k A):A.units+64<cLine:=by have:=r.un;omega
def tNil:TA:=λ_ H Q=>Q [] H
def Vj(ta:TE)(tr:TA):TA:=λσ H Q=>ta σ H λx H1=>tr σ H1 λxs H2=>Q (x::xs) H2
section
variable{X:Cx}{e:Expr}{es:List Expr}{te:TE}{t:TA}{pos:Pos}
theorem Zh:PA X [] tNil:=λ_ _ _ _ H Q I h=>Calls.spliced_nil ⟨[],H,I,.nil,h⟩
theorem Zc(ha:PE X e te)(hr:PA X es t)(hs:starEach (e::es) X.env=(false,eval e X.env)::starEach es X.env:=by rfl):PA X (e::es) (Vj te t):=by
 intro pos pins s σ H Q I h;rw [hs];show wpAny _ _ (spliced ((false,eval e X.env)::backTo pos (starEach es X.env))) _ _ s;refine Calls.spliced_cons (thn (ha pins s σ H _ I h) λu s1 ⟨x,H1,I1,r1,q1⟩ => ?_);exact thn (hr pos pins s1 σ H1 _ I1 q1) λus s2 ⟨xs,H2,I2,r2,q2⟩=>⟨x::xs,H2,I2,.cons r1 r2,q2⟩
def ZlX(t:TA):TE:=λσ H Q=>t σ H λxs H1=>xs.length<=sizeLine/\∀p,H1 p=none->Q (.ref p) (upd H1 p (.tup xs))
def ZlY(t:TA):TE:=λσ H Q=>t σ H λxs H1=>xs.length<=sizeLine/\∀p,H1 p=none->Q (.ref p) (upd H1 p (.lst xs))
theorem X6{x1}(h:PA X es t):PE X (.Tuple es x1 pos) (ZlX t):=by
 intro pins s σ H Q I hq;refine wpAny_Tuple_spliced (thn (h pos pins s σ H _ I hq) λus s1 ⟨xs,H1,I1,r,z,q⟩=>⟨by rw [<-r.length];exact z,?_⟩);have hf:H1 s1.heap.objs.size=none:=I1.hok.fresh (Nat.le_refl _);refine⟨.ref s1.heap.objs.size,upd H1 s1.heap.objs.size (.tup xs),I1.laid (t':=s1.toks) (λb u e=>Heap.get?_push_of_some _ e) (Nat.le_refl _) ?_,rfl,q _ hf⟩;exact⟨z,us,r,⟨_,Heap.get?_push_size _ rfl,rfl,⟨_,rfl⟩,rfl⟩⟩
theorem XB(h:PA X es t):PE X (.List es pos) (ZlY t):=by
 intro pins s σ H Q I hq;refine wpAny_List_spliced (thn (h pos pins s σ H _ I hq) λus s1 ⟨xs,H1,I1,r,z,q⟩=>⟨by rw [<-r.length];exact z,?_⟩);have hf:H1 s1.heap.objs.size=none:=I1.hok.fresh (Nat.le_refl _);refine⟨.ref s1.heap.objs.size,upd H1 s1.heap.objs.size (.lst xs),I1.laid (t':=s1.toks) (λb u e=>Heap.get?_push_of_some _ e) (Nat.le_refl _) ?_,rfl,q _ hf⟩;exact⟨z,us,0,r,Heap.get?_push_size _ rfl⟩
end
abbrev Sp:=List V->Hp->VK->XK->Prop
abbrev CXT:=List Env->Hp->Shared->XK->Value->Shared->Prop
structure Env0(P:Program)(w:World)(K:PySem.W.Frag)(mg:Str->Option Value)(base:Heap)(A:Around)(outer:List Env)(s:Shared)(H:Hp):Prop where
 frames:A.frames=some outer
 mod:Mod K mg base
 bs:∀b o,base.get? b=some o->s.heap.get? b=some o/\H b=none
 bsz:base.objs.size<=s.heap.objs.size
 funs:s.heap.FunFrames base outer
 frf:∀b∈frs outer,H b=none
 hok:HOk P w H s.heap
 bare:AllBare s.gens
 tb:Zd1 K H
def CE(outer:List Env)(P:Program)(w:World)(H:Hp)(s:Shared)(Q:VK)(u:Value)(s':Shared):Prop:=
 ∃v H',s'.os=s.os/\AllBare s'.gens/\Un (frs outer) [] H H' s.heap s'.heap/\HOk P w H' s'.heap/\RelV v u/\Q v H'
def CR(CX:CXT)(outer:List Env)(P:Program)(w:World)(H:Hp)(s:Shared)(Q:VK)(E:XK)(r:Result)(s':Shared):Prop:=
 match r with
 | .ok (.ret u)=>CE outer P w H s Q u s'
 | .ok _=>False
 | .error e=>CX outer H s E e s'
structure FnOk(P:Program)(w:World)(K:PySem.W.Frag)(mg:Str->Option Value)(base:Heap)(CX:CXT)(k:Nat)(f:Addr)(fd:FuncData)(ps:List Str)(sp:Sp):Prop where
 len:∀vs H Q E,sp vs H Q E->vs.length=ps.length
 run:∀(A:Around)(outer:List Env)(s:Shared)(H:Hp)(args:Args)(us:List Value)(vs:List V)(Q:VK)(E:XK),Room k A->Env0 P w K mg base A outer s H->BindsTo s fd args (ps.zip us)->Vals vs us->sp vs H Q E ->
  codeAny (model P w) A (.call (.ref f) args) (CR CX outer P w H s Q E) s
theorem FnOk.mono{P:Program}{w:World}{K:PySem.W.Frag}{mg:Str->Option Value}{base:Heap}{CX:CXT}{j k:Nat}{f:Addr}{fd:FuncData}{ps:List Str}{sp:Sp}(F:FnOk P w K mg base CX j f fd ps sp)(h:j<=k) :
 FnOk P w K mg base CX k f fd ps sp:=⟨F.len,λA outer s H args us vs Q E hr=>F.run A outer s H args us vs Q E (hr.mono h)⟩
theorem FnOk.imp {P:Program} {w:World} {K:PySem.W.Frag} {mg:Str->Option Value} {base:Heap} {CX:CXT} {k:Nat} {f:Addr} {fd:FuncData} {ps:List Str} {sp sp':Sp} (F:FnOk P w K mg base CX k f fd ps sp)
 (h:∀vs H Q E,sp' vs H Q E->sp vs H Q E):FnOk P w K mg base CX k f fd ps sp':=
 ⟨λvs H Q E q=>F.len vs H Q E (h _ _ _ _ q),λA outer s H args us vs Q E hr he hb hv hs=>F.run A outer s H args us vs Q E hr he hb hv (h _ _ _ _ hs)⟩
theorem Env0.make{P:Program}{w:World}{K:PySem.W.Frag}{mg:Str->Option Value}{base:Heap}{A:Around}{outer:List Env}{s:Shared}{H:Hp}(e:Env0 P w K mg base A outer s H)(C:Addr)(us:List Value)(kw:List (Str×Value)) :
 Env0 P w K mg base (A.under (.builtin "type.__call__" ⟨.ref C::us,kw⟩)) outer s H:=⟨by first|exact e.frames|(simpa [Around.under,Code.envs,Code.isFrame,pushEnvs]using e.frames),e.mod,e.bs,e.bsz,e.funs,e.frf,e.hok,e.bare,e.tb⟩
section
variable{X:Cx}{pins:List (Addr×Obj)}{σ:St}{H:Hp}{s s':Shared}
theorem Inv.tabs(I:Inv X pins σ H s):Zd1 X.K H:=λq hq=>by
 obtain⟨m1,e1⟩:=I.ok.tb q hq;obtain⟨m2,e2⟩:=I.base.tbls _ _ e1;exact⟨m1++m2,by rw [e2,Array.append_assoc]⟩
theorem Inv.env0(I:Inv X pins σ H s):Env0 X.prog X.w X.K X.mg X.base X.A X.stack s H:=
 ⟨I.ok.frames,I.ok.mod,I.bs,Nat.le_trans I.ok.bsz I.sz,I.stack,I.stkFree,I.hok,I.bare,I.tabs⟩
theorem Inv.after{Q:VK}{u:Value}(I:Inv X pins σ H s)(h:CE X.stack X.prog X.w H s Q u s'):EP X pins σ Q u s':=by
 obtain⟨v,H',os,bare,un,hok,r,q⟩:=h;obtain⟨hh,g,d,t,os'⟩:=s';obtain rfl:os'=s.os:=os;exact⟨v,H',I.call (h':=hh) (g':=g) (d':=d) (t':=t) (ch:=[]) un hok bare (λb z=>absurd z (by simp)),r,q⟩
end
def UK(sp:Sp)(dvs:List V)(E:XK)(t:TA):TE:=λσ H Q=>t σ H λvs H1=>sp (vs++dvs) H1 Q E
def ZhS(C:Addr)(sp:Sp)(dvs:List V)(E:XK)(t:TA):TE:=λσ H Q=>t σ H λvs H1=>∀x dx,H1 x=none->H1 dx=none->dx≠x ->
 sp (.ref x::(vs++dvs)) (upd (upd H1 dx (.own x)) x (.ins C dx [])) (λv H2=>v = .non/\Q (.ref x) H2) E
def Binds(K:PySem.W.Frag)(fd:FuncData)(ps:List Str)(ds:List Value):Prop:=
 ∀(s:Shared)(us:List Value),K.In s.heap->(us++ds).length=ps.length->BindsTo s fd ⟨us,[]⟩ (ps.zip (us++ds))
theorem Binds.all{K:PySem.W.Frag}{fd:FuncData}{ps:List Str}(h:∀us:List Value,us.length=ps.length->bindArgs fd ⟨us,[]⟩=pure (ps.zip us)):Binds K fd ps []:=λs us _ hl=>by
 rw [List.append_nil]at hl ⊢;exact .of_eq (h us hl)
def VW(CX:CXT)(X:Cx)(E:XK):Prop:=∀(pins:List (Addr×Obj))(σ:St)(H:Hp)(s:Shared)(e:Value)(s':Shared),Inv X pins σ H s->CX X.stack H s E e s'->X.xe e s'
section
variable{X:Cx}{CX:CXT}{k:Nat}{f C:Addr}{fd:FuncData}{ps:List Str}{sp:Sp}{dvs:List V}{ds:List Value}{E:XK}{x m:Str}{p pos apos:Pos}{e o:Expr}{es:List Expr}{ta:TE}{t:TA}
theorem ZcY {pins:List (Addr×Obj)} {σ:St} {H:Hp} {s:Shared} {Q:VK} {us:List Value} {vs:List V} (F:FnOk X.prog X.w X.K X.mg X.base CX k f fd ps sp) (hr:Room k X.A) (hb:Binds X.K fd ps ds) (hd:Vals dvs ds) (hx:VW CX X E)
 (I:Inv X pins σ H s) (r:Vals vs us) (h:sp (vs++dvs) H Q E):wpAny (model X.prog X.w) X.A (call (.ref f) us) (EP X pins σ Q) X.xe s:=by
 have r2:Vals (vs++dvs) (us++ds):=r.append hd;have hl:(us++ds).length=ps.length:=by rw [<-r2.length];exact F.len _ _ _ _ h
 refine wpAny_call (codeAny_mono (F.run X.A X.stack s H ⟨us,[]⟩ (us++ds) (vs++dvs) Q E hr I.env0 (hb s us I.kIn hl) r2 h) λr s' hq => ?_);cases r with
 |error e=>exact hx pins σ H s e s' I hq
 |ok fl=>
  cases fl with
  |ret u=>exact I.after hq
  |next=>exact False.elim hq
  |brk=>exact False.elim hq
  |cont=>exact False.elim hq
theorem ZA (F:FnOk X.prog X.w X.K X.mg X.base CX k f fd ps sp) (hr:Room k X.A) (hg:Gl X x) (hm:X.mg x=some (.ref f)) (hk:keepIn X.K (.ref f)=true) (hb:Binds X.K fd ps ds) (hd:Vals dvs ds) (hx:VW CX X E)
 (ha:PA X (e::es) t) (hdb:(x == ("__debug__" : Str))=false:=by decide) (he:starEach (e::es) X.env=(false,eval e X.env)::starEach es X.env:=by rfl) (hpl:(backTo pos (starEach es X.env)).any (·.1)=false:=by rfl) :
 PE X (.Call (.Name x p) (e::es) [] pos) (UK sp dvs E t):=by
 intro pins s σ H Q I h;refine wpAny_Call_Name_kw (Ud I hg hm ?_ hdb);refine PySem.W.callWith_K (h₀:=X.base) I.ok.mod.kin hk (thn (ha pos pins s σ H _ I h) λus s1 ⟨vs,H1,I1,r,q⟩=>⟨I1.kIn,?_⟩) he hpl;exact ZcY F hr hb hd hx I1 r q
structure Mk(K:PySem.W.Frag)(C f:Addr):Prop where
 makes:PySem.W.makesIn K C=true
 init:PySem.W.findIn K (.ref C) "__init__" = some (some (.ref f))
 fn:isFn K (.ref f)=true
 kp:keepIn K (.ref C)=true
theorem ZfA {pins:List (Addr×Obj)} {σ:St} {H:Hp} {s:Shared} {Q:VK} {us:List Value} {vs:List V} (M:Mk X.K C f) (F:FnOk X.prog X.w X.K X.mg X.base CX k f fd ps sp) (hr:Room (k+1) X.A) (hb:Binds X.K fd ps ds) (hd:Vals dvs ds)
 (hx:VW CX X E) (I:Inv X pins σ H s) (r:Vals vs us)
 (h:∀x dx,H x=none->H dx=none->dx≠x->sp (.ref x::(vs++dvs)) (upd (upd H dx (.own x)) x (.ins C dx [])) (λv H2=>v = .non/\Q (.ref x) H2) E) :
 wpAny (model X.prog X.w) X.A (call (.ref C) us) (EP X pins σ Q) X.xe s:=by
 have hq:=h (s.heap.objs.size+1) s.heap.objs.size (I.hok.fresh (Nat.le_succ _)) (I.hok.fresh (Nat.le_refl _)) (Nat.ne_of_lt (Nat.lt_succ_self _));have I2:=Inv.made (C:=C) I;have r2:Vals (V.ref (s.heap.objs.size+1)::(vs++dvs)) (Value.ref (s.heap.objs.size+1)::(us++ds)) := .cons rfl (r.append hd)
 have hl:(Value.ref (s.heap.objs.size+1)::us++ds).length=ps.length:=by
  have e:=r2.length;rw [F.len _ _ _ _ hq]at e;exact e.symm
 refine wpAny_call (Zfz (f:=f) I.kIn M.makes M.init (beq_iff_eq.mp M.fn) (codeAny_mono (F.run _ X.stack _ _ ⟨Value.ref (s.heap.objs.size+1)::us,[]⟩ (Value.ref (s.heap.objs.size+1)::(us++ds)) _ _ E (hr.make C us [])
  (I2.env0.make C us []) (hb _ (Value.ref (s.heap.objs.size+1)::us) I2.kIn hl) r2 hq) λr s' hq' => ?_))
 cases r with
 |error e=>exact hx pins σ _ _ e s' I2 hq'
 |ok fl=>
  cases fl with
  |ret u=>
   obtain⟨v,H',I3,rv,ev,q3⟩:=I2.after hq';subst ev;exact⟨rv,⟨V.ref (s.heap.objs.size+1),H',I3,rfl,q3⟩⟩
  |next=>exact False.elim hq'
  |brk=>exact False.elim hq'
  |cont=>exact False.elim hq'
theorem XC (M:Mk X.K C f) (F:FnOk X.prog X.w X.K X.mg X.base CX k f fd ps sp) (hr:Room (k+1) X.A) (hg:Gl X x) (hm:X.mg x=some (.ref C)) (hb:Binds X.K fd ps ds) (hd:Vals dvs ds) (hx:VW CX X E)
 (ha:PA X (e::es) t) (hdb:(x == ("__debug__" : Str))=false:=by decide) (he:starEach (e::es) X.env=(false,eval e X.env)::starEach es X.env:=by rfl) (hpl:(backTo pos (starEach es X.env)).any (·.1)=false:=by rfl) :
 PE X (.Call (.Name x p) (e::es) [] pos) (ZhS C sp dvs E t):=by
 intro pins s σ H Q I h;refine wpAny_Call_Name_kw (Ud I hg hm ?_ hdb);refine PySem.W.callWith_K (h₀:=X.base) I.ok.mod.kin M.kp (thn (ha pos pins s σ H _ I h) λus s1 ⟨vs,H1,I1,r,q⟩=>⟨I1.kIn,?_⟩) he hpl;exact ZfA M F hr hb hd hx I1 r q
end
def PK(X:Cx)(kws:List Keyword)(t:TA):Prop:=
 ∀(pos:Pos)(pins:List (Addr×Obj))(s:Shared)(σ:St)(H:Hp)(Q:List V->Hp->Prop),Inv X pins σ H s->t σ H Q->wpAny (model X.prog X.w) X.A (evalAll ((backToKw pos (keywordEach kws X.env)).map (·.2))) (AP X pins σ Q) X.xe s
section
variable{X:Cx}{CX:CXT}{k:Nat}{f C:Addr}{fd:FuncData}{ps ks:List Str}{sp:Sp}{E:XK}{x m:Str}{p pos apos kpos:Pos}{e o:Expr}{es:List Expr}{kws:List Keyword}{te ta:TE}{t tk:TA}{nm:Option Str}
theorem Zip:PK X [] tNil:=λ_ _ _ _ H Q I h=>wpAny_evalAll_nil ⟨[],H,I,.nil,h⟩
theorem Zg2(ha:PE X e te)(hr:PK X kws t):PK X (⟨nm,e,kpos⟩::kws) (Vj te t):=by
 intro pos pins s σ H Q I h;show wpAny _ _ (evalAll ((do let v <-eval e X.env;standAt pos;pure v)::(backToKw pos (keywordEach kws X.env)).map (·.2))) _ _ s;refine wpAny_evalAll_cons (wpAny_bind (thn (ha pins s σ H _ I h) λu s1 ⟨x,H1,I1,r1,q1⟩=>wpAny_bind (wpAny_standAt (wpAny_pure ?_))));exact thn (hr pos pins s1 σ H1 _ I1 q1) λus s2 ⟨xs,H2,I2,r2,q2⟩=>⟨x::xs,H2,I2,.cons r1 r2,q2⟩
structure KBinds(K:PySem.W.Frag)(fd:FuncData)(ps ks:List Str)(g:List Value->List Value->List Value)(gV:List V->List V->List V):Prop where
 to:∀(s:Shared)(us ws:List Value),K.In s.heap->(g us ws).length=ps.length->BindsTo s fd ⟨us,ks.zip ws⟩ (ps.zip (g us ws))
 rel:∀{vs:List V}{us:List Value}{zs:List V}{ws:List Value},Vals vs us->Vals zs ws->Vals (gV vs zs) (g us ws)
variable{g:List Value->List Value->List Value}{gV:List V->List V->List V}
end
structure FnScope(N P:List Str)(sc:Scope):Prop where
 kind:sc.kind = .function
 co:sc.isCoroutine=false
 gen:sc.isGenerator=false
 nd:N.Nodup
 pre:N.take P.length=P
 par:∀x∈P,sc.names.lookup x=some .local\/sc.names.lookup x=some .cell
 nofree:∀y∈sc.names,y.2 ≠ .free
theorem Zb1{kindOf:Str->Option NameKind}{x:Str}:∀{binds:List (Str×Value)}{m:Str->Option Value},(∀v,(x,v)∉binds)->bindL kindOf binds m x=m x
 | [],_,_=>rfl
 |(n,v)::r,m,h=>by
  unfold bindL;rw [Zb1 λw hw=>h w (List.mem_cons_of_mem _ hw)]
  split
  · have:x≠n:=by rintro rfl;exact h v List.mem_cons_self
    simp [this]
  · rfl
theorem Zb2{kindOf:Str->Option NameKind}{x:Str}:∀{binds:List (Str×Value)}{m:Str->Option Value},(∀v,(x,v)∉binds)->bindC kindOf binds m x=m x
 | [],_,_=>rfl
 |(n,v)::r,m,h=>by
  unfold bindC;rw [Zb2 λw hw=>h w (List.mem_cons_of_mem _ hw)]
  split
  · rfl
  · have:x≠n:=by rintro rfl;exact h v List.mem_cons_self
    simp [this]
theorem Zb3{kindOf:Str->Option NameKind}{x:Str}{v:Value}:∀{P:List Str}{vs:List Value}{i:Nat}{m:Str->Option Value},P.Nodup->P[i]? = some x->vs[i]? = some v->kindOf x=some .local ->
 bindL kindOf (P.zip vs) m x=some v
 | [],_,_,_,_,h,_,_=>by simp at h
 |_::_,[],_,_,_,_,h,_=>by simp at h
 |p::P,w::vs,0,m,nd,h1,h2,hk=>by
  simp at h1 h2;subst h1;subst h2;show bindL kindOf ((p,w)::P.zip vs) m p=_;unfold bindL;rw [Zb1 λv hv=>(List.nodup_cons.mp nd).1 (List.of_mem_zip hv).1,if_pos hk];simp
 |p::P,w::vs,i+1,m,nd,h1,h2,hk=>by
  show bindL kindOf ((p,w)::P.zip vs) m x=_;unfold bindL;exact Zb3 (i:=i) (List.nodup_cons.mp nd).2 (by simpa using h1) (by simpa using h2) hk
theorem Zb4{kindOf:Str->Option NameKind}{x:Str}{v:Value}:∀{P:List Str}{vs:List Value}{i:Nat}{m:Str->Option Value},P.Nodup->P[i]? = some x->vs[i]? = some v->kindOf x≠some .local ->
 bindC kindOf (P.zip vs) m x=some v
 | [],_,_,_,_,h,_,_=>by simp at h
 |_::_,[],_,_,_,_,h,_=>by simp at h
 |p::P,w::vs,0,m,nd,h1,h2,hk=>by
  simp at h1 h2;subst h1;subst h2;show bindC kindOf ((p,w)::P.zip vs) m p=_;unfold bindC;rw [Zb2 λv hv=>(List.nodup_cons.mp nd).1 (List.of_mem_zip hv).1,if_neg hk];simp
 |p::P,w::vs,i+1,m,nd,h1,h2,hk=>by
  show bindC kindOf ((p,w)::P.zip vs) m x=_;unfold bindC;exact Zb4 (i:=i) (List.nodup_cons.mp nd).2 (by simpa using h1) (by simpa using h2) hk
def start(N:List Str)(vs:List V):St:=vs.map some++List.replicate (N.length-vs.length) none
def YK(CX:CXT)(P:Program)(w:World)(K:PySem.W.Frag)(mg:Str->Option Value)(base:Heap)(N:List Str)(qual:Str)(scope:Scope)(f:Addr)(cd:Value)(A:Around)(outer:List Env)(s:Shared)(H:Hp)(E:XK):Cx where
 prog:=P
 w:=w
 K:=K
 mg:=mg
 base:=base
 A:=A.deeper (envOfC qual scope s.heap.objs.size f cd)
 N:=N
 s₀:=s
 H₀:=H
 env:=envOfC qual scope s.heap.objs.size f cd
 outer:=outer
 stack:=envOfC qual scope s.heap.objs.size f cd::outer
 ex:=[]
 calm:=true
 fn:=λ_=>true
 pn:=[]
 xe:=λe s'=>wpAny (model P w) (A.deeper (envOfC qual scope s.heap.objs.size f cd)) (leaving (envOfC qual scope s.heap.objs.size f cd) e) (λ_ s''=>CX outer H s E e s'') (λe' s''=>CX outer H s E e' s'') s'
theorem Zda{sc:Scope}{n:Nat}{x:Str}(h:sc.names.lookup x=some .cell):∃c,(cellsFrom n sc.names []).lookup x=some c:=by
 have q:=PySem.W.cellsFrom_some sc.names n [] (.inl h);exact Option.isSome_iff_exists.mp q
theorem Zb5 {CX:CXT} {P:Program} {w:World} {K:PySem.W.Frag} {mg:Str->Option Value} {base:Heap} {N ps:List Str} {qual:Str} {scope:Scope} {f:Addr} {cd:Value} {A:Around} {outer:List Env} {s s1:Shared} {H:Hp} {E:XK} {us:List Value} {vs:List V}
 (S:FnScope N ps scope) (hd:A.handled=none) (e0:Env0 P w K mg base A outer s H) (hl:vs.length=ps.length) (r:Vals vs us)
 (x:InCallC s s.heap.objs.size (bindL (envOfC qual scope s.heap.objs.size f cd).kindOf (ps.zip us) λ_=>none) (cellsFrom (s.heap.objs.size+1) scope.names []) (bindC (envOfC qual scope s.heap.objs.size f cd).kindOf (ps.zip us) λ_=>none) s1) :
 Inv (YK CX P w K mg base N qual scope f cd A outer s H E) [] (start N vs) H s1:=by
 have hpl:ps.length<=N.length:=by have:=congrArg List.length S.pre;rw [List.length_take]at this;omega
 obtain⟨h1,tk,rfl,hk⟩:=x.done;have noA:∀b:Addr,b∉(YK CX P w K mg base N qual scope f cd A outer s H E).ex:=λb z=>absurd (show b∈([]:List Addr)from z) (by simp)
 refine⟨⟨e0.mod,S.kind,rfl,rfl,Nat.le_refl _,λy z c h1 h2 => ?_,λy hy => ?_,λy c _ h => ?_,λ_=>hd,Around.frames_deeper e0.frames,.inr ⟨rfl,rfl⟩,λb z=>absurd z (noA b),e0.bs,e0.bsz,λb _ _=>noA b,λb z=>absurd z (noA b),e0.funs,e0.frf,e0.tb⟩,
  rfl,e0.bare,Un.kept hk,⟨_,x.toInCall.ns,λi y v h1 h2 h3 => ?_⟩,λy c h=>⟨_,x.cell y c h⟩,e0.hok.fresh (Nat.le_refl _),λy c h => ?_,λp hp=>absurd (show p∈([]:List (Addr×Obj))from hp) (by simp),e0.hok.kept hk,?_,λq hq=>absurd (show q∈([]:List (Addr×Obj×Str))from hq) (by simp)⟩
 · exact name_of_addr x.apart (PySem.mem_of_lookup h1) (PySem.mem_of_lookup h2)
 · have hy:scope.names.lookup y=some .cell\/scope.names.lookup y=some .free:=hy
   rcases hy with hy|hy
   · exact Zda hy
   · exact absurd rfl (S.nofree _ (PySem.mem_of_lookup hy))
 · exact Nat.le_of_lt (x.above y c (PySem.mem_of_lookup h))
 · have hi : i < vs.length := by
    unfold start at h2
    by_cases hi:i<vs.length
    · exact hi
    · rw [List.getElem?_append_right (by simpa using hi)]at h2
      rw [List.getElem?_replicate]at h2
      split at h2<;>cases h2
   have ha:vs[i]? = some v:=by
    unfold start at h2;rw [List.getElem?_append_left (by simpa using hi),List.getElem?_map]at h2;cases e:vs[i]? with
    |none=>rw [e]at h2;cases h2
    |some a=>rw [e]at h2;cases h2;rfl
   obtain⟨u,hu,rv⟩:=r.get ha
   have hp:ps[i]? = some y:=by
    rw [<-S.pre,List.getElem?_take_of_lt (by omega)];exact h1
   have ndP:ps.Nodup:=by rw [<-S.pre];exact S.nd.sublist (List.take_sublist _ _)
   refine⟨u,rv,?_⟩;rcases S.par y (List.mem_of_getElem? hp)with k|k
   · exact .inl ⟨k,Zb3 ndP hp hu k⟩
   · obtain⟨c,e⟩:=Zda (n:=s.heap.objs.size+1) k
     refine .inr ⟨.inl k,c,e,?_⟩;have q:=x.cell y c e;rw [Zb4 ndP hp hu (by show scope.names.lookup y≠_;rw [k];decide)]at q;exact q
 · exact e0.hok.fresh (Nat.le_of_lt (x.above y c (PySem.mem_of_lookup h)))
 · unfold start
   show _=N.length;rw [List.length_append,List.length_map,List.length_replicate];omega
theorem ZgN {CX:CXT} {P:Program} {w:World} {K:PySem.W.Frag} {mg:Str->Option Value} {base:Heap} {k:Nat} {f:Addr} {name qual:Str} {params:Arguments} {body:List Stmt} {scope:Scope} {dV kV doc pm cdv ct oc:Value} {an od:Option Addr}
 {osl:Array (Option Value)} {N ps:List Str} {sp:Sp} (lk:K.lookup f=some ⟨oc,od,.func (fnOf name qual params body scope dV kV doc pm an cdv ct),osl⟩) (hcd:codeIn K cdv qual=true) (S:FnScope N ps scope)
 (len:∀vs H Q E,sp vs H Q E->vs.length=ps.length)
 (hbody:∀(A:Around)(outer:List Env)(s:Shared)(H:Hp)(vs:List V)(Q:VK)(E:XK),Room k (A.deeper (envOfC qual scope s.heap.objs.size f cdv))->sp vs H Q E ->
   ∃t,PSs (YK CX P w K mg base N qual scope f cdv A outer s H E) body t/\t { nx:=λ_ H'=>Q .non H',rt:=Q } (start N vs) H) :
 FnOk P w K mg base CX (k+1) f (fnOf name qual params body scope dV kV doc pm an cdv ct) ps sp:=by
 refine⟨len,λA outer s H args us vs Q E hr e0 hb r hsp => ?_⟩;have hl:=len _ _ _ _ hsp;have KX:K.In s.heap:=e0.mod.kin.keeps λb o e=>(e0.bs b o e).1
 have lim:s.heap.NoLimit:=e0.mod.nolimit.keeps λb o e=>(e0.bs b o e).1
 have hkind:∀y∈ps.zip us,scope.names.lookup y.1=some .local\/(scope.names.lookup y.1=some .cell/\((cellsFrom (s.heap.objs.size+1) scope.names []).lookup y.1).isSome=true):=λ⟨n,v⟩ hy=>by
  rcases S.par n (List.of_mem_zip hy).1 with q|q
  · exact .inl q
  · exact .inr ⟨q,PySem.W.cellsFrom_some _ _ _ (.inl q)⟩
 refine codeAny_call_function hr.depth (KX _ _ lk) rfl S.co S.gen rfl (PySem.W.codeRec_of KX hcd) (hb _ _ _ _ ?_);refine wpAny_newFunctionEnv_cells S.kind hkind λenv he s1 x => ?_
 subst he;refine⟨lim.keeps x.toInCall.keep,codeAny_func ?_⟩;obtain⟨t,ht,hq⟩:=hbody A outer s H vs Q E (hr.deeper _) hsp;have I:Inv (YK CX P w K mg base N qual scope f cdv A outer s H E) [] (start N vs) H s1:=Zb5 S hr.hd e0 hl r x;refine wpAny_mono (ht [] s1 (start N vs) H _ I hq) (λfl s' hs => ?_) λe s' hs=>hs
 have fin:∀{σ':St}{H':Hp}{v:V}{u:Value},Inv (YK CX P w K mg base N qual scope f cdv A outer s H E) [] σ' H' s'->RelV v u->Q v H'->CE outer P w H s Q u s':=
  λ{σ' H' v u} J rv q=>⟨v,H',J.os,J.bare,J.base,J.hok,rv,q⟩
 cases fl with
 |ret u=>
  obtain⟨v,σ',H',J,rv,q⟩:=hs;exact fin J rv q
 |next=>
  obtain⟨σ',H',J,q⟩:=hs;exact fin (v:=V.non) (u:=Value.none) J rfl q
 |brk=>
  obtain⟨_,_,_,q⟩:=hs;exact False.elim q
 |cont=>
  obtain⟨_,_,_,q⟩:=hs;exact False.elim q
end L2
namespace L2
open PySem PySem.Spec PyProof.Rows
section
variable{X:Cx}{x:Str}{p pos:Pos}{e:Expr}{es:List Expr}{t:TA}{id T:String}{r:List V->Hp->VK->Prop}
def tCB(r:List V->Hp->VK->Prop)(t:TA):TE:=λσ H Q=>t σ H λvs H1=>r vs H1 Q
theorem ZN (hc:Y9 X (.builtin id) r) (hg:Gl X x) (hm:X.mg x=none) (hv:bootBuiltins x=some (.builtin id)) (ha:PA X (e::es) t) (hn:x ≠ "__name__" := by decide) (hdb:(x == ("__debug__" : Str))=false:=by decide)
 (he:starEach (e::es) X.env=(false,eval e X.env)::starEach es X.env:=by rfl) (hpl:(backTo pos (starEach es X.env)).any (·.1)=false:=by rfl):PE X (.Call (.Name x p) (e::es) [] pos) (tCB r t):=by
 intro pins s σ H Q I h;refine wpAny_Call_Name_kw (Q0 I hg hm hv ?_ hn hdb);exact PyProof.Rows.callWith_builtin1 (thn (ha pos pins s σ H _ I h) λus s1 ⟨vs,H1,I1,r1,q1⟩=>hc pins s1 σ H1 vs us Q I1 r1 q1) he hpl
theorem Xh (hc:Y9 X (.type T) r) (hg:Gl X x) (hm:X.mg x=none) (hv:bootBuiltins x=some (.type T)) (ha:PA X (e::es) t) (hn:x ≠ "__name__" := by decide) (hdb:(x == ("__debug__" : Str))=false:=by decide)
 (he:starEach (e::es) X.env=(false,eval e X.env)::starEach es X.env:=by rfl) (hpl:(backTo pos (starEach es X.env)).any (·.1)=false:=by rfl):PE X (.Call (.Name x p) (e::es) [] pos) (tCB r t):=by
 intro pins s σ H Q I h;refine wpAny_Call_Name_kw (Q0 I hg hm hv ?_ hn hdb);exact PyProof.Rows.callWith_type1 (thn (ha pos pins s σ H _ I h) λus s1 ⟨vs,H1,I1,r1,q1⟩=>hc pins s1 σ H1 vs us Q I1 r1 q1) he hpl
end
end L2
namespace HT
open PySem PyProof.Rows
section
open PySem.SeqAt
open PySem.AutoSeq1 (wpAny_loadPart')
open PySem.MeetsSeq PySem.MeetsSeq2 PySem.MeetsSeq3
end
section
variable{prog:Program}{w:World}{A:Around}{E:Value->Shared->Prop}{s:Shared}
def sIx(n d:Nat):Option Int->Nat
 |none=>d
 |some v=>if v<0 then(v+(n:Int)).toNat else min v.toNat n
theorem Ziq(n d:Nat)(hd:d<=n)(o:Option Int):sIx n d o<=n:=by
 cases o with
 |none=>exact hd
 |some v=>
  show(if v<0 then(v+(n:Int)).toNat else min v.toNat n)<=n
  by_cases hv:v<0
  · rw [if_pos hv];omega
  · rw [if_neg hv];exact Nat.min_le_right _ _
theorem Zek(v:Int)(n d:Nat):(if v<0 then max (v+(n:Int)) 0 else min v (n:Int))=((sIx n d (some v):Nat):Int):=by
 show(if v<0 then max (v+(n:Int)) 0 else min v (n:Int))=(((if v<0 then(v+(n:Int)).toNat else min v.toNat n):Nat):Int)
 by_cases hv:v<0
 · simp only [if_pos hv];omega
 · simp only [if_neg hv];omega
theorem ZdL(lo hi:Option Int)(n:Nat):Builtin.Slice.sliceAdjust lo hi 1 (n:Int)=(((sIx n 0 lo:Nat):Int),((sIx n n hi:Nat):Int)):=by
 have h1:¬((1:Int)<0):=by omega
 unfold Builtin.Slice.sliceAdjust;simp only [h1,if_false];refine Prod.ext ?_ ?_
 · cases lo with
   |none=>rfl
   |some v=>exact Zek v n 0
 · cases hi with
   |none=>rfl
   |some v=>exact Zek v n n
theorem ZdM(i j:Nat):Builtin.Slice.slicePlaces (i:Int) (j:Int) 1=j-i:=by
 unfold Builtin.Slice.slicePlaces;have h1:(1:Int)>0:=by omega
 simp only [h1,if_true,Int.ediv_one]
 split<;>omega
theorem Zbr{v:Value}{o:Option Int}{Q:Option Int->Shared->Prop}(p:IsPart v o)(h:Q o s):wpAny (model prog w) A (Builtin.Slice.slicePartIndex v) Q E s:=by
 cases p with
 |none=>exact slicePart_none h
 |int i t=>exact slicePart_int h
theorem ZaR {sl:Addr} {vl vu:Value} {lo hi:Option Int} {n:Nat} {Q:Int×Int×Nat->Shared->Prop} (hs:s.heap.IsSliceOf sl vl vu .none) (pl:IsPart vl lo) (pu:IsPart vu hi)
 (h:Q (((sIx n 0 lo:Nat):Int),1,sIx n n hi-sIx n 0 lo) s):wpAny (model prog w) A (Builtin.Slice.sliceApplied (.ref sl) (pure (n:Int))) Q E s:=by
 obtain⟨os,hos,hcs,hds⟩:=id hs;unfold Builtin.Slice.sliceApplied Builtin.Slice.sliceFields;refine wpAny_bind (wpAny_bind (wpAny_field hos hds (x:=vl) rfl (wpAny_bind (wpAny_field hos hds (x:=vu) rfl (wpAny_bind (wpAny_field hos hds (x:=.none) rfl (wpAny_pure ?_)))))));refine wpAny_bind (slicePart_none ?_);show wpAny _ _ (if((1:Int) == 0)=true then _ else _) _ _ s;rw [if_neg (by decide)]
 refine wpAny_bind (Zbr pl (wpAny_bind (Zbr pu (wpAny_bind (wpAny_pure ?_)))));show wpAny _ _ (match Builtin.Slice.sliceAdjust lo hi 1 (n:Int)with|(lo,hi)=>pure (lo,(1:Int),Builtin.Slice.slicePlaces lo hi 1)) _ _ s;rw [ZdL lo hi n];show wpAny _ _ (pure (((sIx n 0 lo:Nat):Int),(1:Int),Builtin.Slice.slicePlaces ((sIx n 0 lo:Nat):Int) ((sIx n n hi:Nat):Int) 1)) _ _ s;rw [ZdM]
 exact wpAny_pure h
theorem ZfB(xs:Array Value)(i k:Nat):((List.range k).filterMap λ(m:Nat)=>xs[((i:Int)+(m:Int)*1).toNat]?).toArray=((xs.toList.drop i).take k).toArray:=by
 have e:(λ(m:Nat)=>xs[((i:Int)+(m:Int)*1).toNat]?)=λm=>xs[i+m]? := by
  funext m
  have:((i:Int)+(m:Int)*1).toNat=i+m:=by omega
  rw [this]
 rw [e];have:=pick_run xs i k;rw [List.filterMap_map]at this;have e2:((λx=>xs[x]?)∘λx=>i+x)=λm=>xs[i+m]? := rfl
 rw [e2]at this;rw [this]
theorem getItem_tuple_cut {t sl:Addr} {items:Array Value} {vl vu:Value} {lo hi:Option Int} {Q:Value->Shared->Prop} (ht:IsTup s.heap t items) (hs:s.heap.IsSliceOf sl vl vu .none) (pl:IsPart vl lo) (pu:IsPart vu hi)
 (hw:¬(sIx items.size 0 lo=0/\sIx items.size items.size hi=items.size))
 (h:Q (.ref s.heap.objs.size) { s with heap:=s.heap.push { cls := .type "tuple",data := .seq ((items.toList.drop (sIx items.size 0 lo)).take (sIx items.size items.size hi-sIx items.size 0 lo)).toArray } })
 (hsz:items.size<=sizeLine):wpAny (model prog w) A (getItem (.ref t) (.ref sl)) Q E s:=by
 have htake:sizeOk (.seq ((items.toList.drop (sIx items.size 0 lo)).take (sIx items.size items.size hi-sIx items.size 0 lo)).toArray):=by
  show((items.toList.drop (sIx items.size 0 lo)).take (sIx items.size items.size hi-sIx items.size 0 lo)).toArray.size<=sizeLine;rw [List.size_toArray,List.length_take,List.length_drop,Array.length_toList];omega
 have hj:sIx items.size items.size hi<=items.size:=Ziq _ _ (Nat.le_refl _) hi;obtain⟨os,hos,hcs,hds⟩:=id hs;have hTs:s.TypeIs (.ref sl) "slice" := ⟨os,hos,hcs⟩
 unfold getItem
 try with_reducible refine wpAny_holding ?_
 first|refine wpAny_bind (wpAny_pure ?_)|skip
 refine wpAny_bind (wpAny_sequenceKey ht.typeIs (by decide) ?_)
 refine wpAny_bind (wpAny_callSpecial?_slot (name:=Str.ofString "__getitem__") ht.typeIs PyProof.Rows.slot_tuple_getitem
  (wpAny_call_entry PyProof.Rows.slot_tuple_getitem ht.typeIs entry_tuple_getitem ?_ (args_tuple_getitem _ _)))
 show wpAny _ _ (Builtin.Tuple.tupleItemsOf (.ref t) >>= _) _ _ s;refine wpAny_bind (tupleItemsOf_ ht ?_);refine wpAny_bind (wpAny_typeOf hTs ?_);rw [if_pos (by decide)];refine wpAny_bind (ZaR hs pl pu ?_)
 have hno:¬((((sIx items.size 0 lo:Nat):Int) == 0&&(1:Int) == 1&&(sIx items.size items.size hi-sIx items.size 0 lo) == items.size)=true):=by
  intro q;rw [Bool.and_eq_true,Bool.and_eq_true]at q;have q1:((sIx items.size 0 lo:Nat):Int)=0:=eq_of_beq q.1.1;have q2:sIx items.size items.size hi-sIx items.size 0 lo=items.size:=eq_of_beq q.2;exact hw ⟨by omega,by omega⟩
 show wpAny _ _ (if(((sIx items.size 0 lo:Nat):Int) == 0&&(1:Int) == 1&&(sIx items.size items.size hi-sIx items.size 0 lo) == items.size)=true then _ else _) _ _ s;rw [if_neg hno,ZfB]
 first
  |exact wpAny_bind (m:=Builtin.Tuple.tupleExact _) (wpAny_newObj_type (wpAny_pure ⟨_,rfl,wpAny_pure h⟩) htake)
  |exact wpAny_bind (m:=Builtin.Tuple.tupleExact _) (wpAny_newObj_type (wpAny_bind (wpAny_pure (wpAny_pure ⟨_,rfl,wpAny_pure h⟩))) htake)
  |exact wpAny_bind (wpAny_bind (m:=Builtin.Tuple.tupleExact _) (wpAny_newObj_type (wpAny_pure (wpAny_pure ⟨_,rfl,wpAny_pure h⟩)) htake))
  |exact wpAny_bind (wpAny_bind (m:=Builtin.Tuple.tupleExact _) (wpAny_newObj_type (wpAny_pure ⟨_,rfl,wpAny_pure h⟩) htake))
end
end HT
namespace L2
open PySem PySem.Spec PyProof.Rows
abbrev TO:=St->Hp->(Option Int->Hp->Prop)->Prop
def PO(X:Cx)(e:Option Expr)(t:TO):Prop:=
 ∀(pins:List (Addr×Obj))(s:Shared)(σ:St)(H:Hp)(Q:Option Int->Hp->Prop),Inv X pins σ H s->t σ H Q ->
  wpAny (model X.prog X.w) X.A (evalPart e X.env) (λu s'=>∃o H',Inv X pins σ H' s'/\IsPart u o/\Q o H') X.xe s
def tNoPart:TO:=λ_ H Q=>Q none H
def ZhT(t:TE):TO:=λσ H Q=>t σ H λx H1=>∃i,x = .int i/\Q (some i) H1
section
variable{X:Cx}{e:Expr}{te:TE}{lo hi:Option Expr}{tl th:TO}{pos p2:Pos}
theorem UL:PO X none tNoPart:=by
 intro pins s σ H Q I h;rw [evalPart_none];exact wpAny_pure ⟨none,H,I,.none,h⟩
theorem UM(h:PE X e te):PO X (some e) (ZhT te):=by
 intro pins s σ H Q I hw;rw [evalPart_some];refine thn (h pins s σ H _ I hw) λu s1 ⟨x,H1,I1,r1,q1⟩ => ?_
 obtain⟨i,rfl,q⟩:=q1;obtain⟨t,rfl⟩:=r1;exact⟨some i,H1,I1,.int i t,q⟩
def SlR(X:Cx)(r:V->Option Int->Option Int->Hp->VK->Prop):Prop:=
 ∀(pins:List (Addr×Obj))(s:Shared)(σ:St)(H:Hp)(x:V)(v vl vu:Value)(lo hi:Option Int)(sl:Addr)(Q:VK),Inv X pins σ H s->RelV x v->s.heap.IsSliceOf sl vl vu .none->IsPart vl lo->IsPart vu hi->r x lo hi H Q ->
  ∃T id,typeLookup (.type T) "__getitem__" = pure (some (.builtin id))/\s.TypeIs v T/\wpAny (model X.prog X.w) X.A (getItem v (.ref sl)) (EP X pins σ Q) X.xe s
theorem SlR.or{r r':V->Option Int->Option Int->Hp->VK->Prop}(h:SlR X r)(h':SlR X r'):SlR X (λx lo hi H Q=>r x lo hi H Q\/r' x lo hi H Q):=by
 intro pins s σ H x v vl vu lo hi sl Q I rx hs pl pu q;rcases q with q|q
 · exact h pins s σ H x v vl vu lo hi sl Q I rx hs pl pu q
 · exact h' pins s σ H x v vl vu lo hi sl Q I rx hs pl pu q
def tSl(r:V->Option Int->Option Int->Hp->VK->Prop)(te:TE)(tl th:TO):TE:=λσ H Q=>te σ H λx H1=>tl σ H1 λl H2=>th σ H2 λu H3=>r x l u H3 Q
theorem UN{r:V->Option Int->Option Int->Hp->VK->Prop}(hr:SlR X r)(he:PE X e te)(hl:PO X lo tl)(hu:PO X hi th):PE X (.Subscript e (.Slice lo hi none p2) pos) (tSl r te tl th):=by
 intro pins s σ H Q I h;refine Subscript_ (thn (he pins s σ H _ I h) λv s1 ⟨x,H1,I1,r1,q1⟩ => ?_);refine wpAny_Slice (thn (hl pins s1 σ H1 _ I1 q1) λvl s2 ⟨l,H2,I2,pl,q2⟩=>thn (hu pins s2 σ H2 _ I2 q2) λvu s3 ⟨u,H3,I3,pu,q3⟩ => ?_);rw [evalPart_none];refine wpAny_pure ?_;have I4:Inv X pins σ H3 { s3 with heap:=s3.heap.push { cls := .type "slice",data := .fields #[vl,vu,.none] } }:=I3.kept (t':=s3.toks) λb ob q=>Heap.get?_push_of_some _ q
 obtain⟨T,id,hT,ht,hg⟩:=hr pins { s3 with heap:=s3.heap.push { cls := .type "slice",data := .fields #[vl,vu,.none] } } σ H3 x v vl vu l u s3.heap.objs.size Q I4 r1 (Heap.IsSliceOf.new ..) pl pu q3;show wpAny (model X.prog X.w) X.A (subscriptTail e (.Slice lo hi none p2) v (.ref s3.heap.objs.size)) (EP X pins σ Q) X.xe { s3 with heap:=s3.heap.push { cls := .type "slice",data := .fields #[vl,vu,.none] } }
 exact tail_any (ops:=[.ref s3.heap.objs.size,v]) ht hT hg (by with_unfolding_all rfl)
def Ux(xs:List V)(lo hi:Option Int):List V:=(xs.drop (HT.sIx xs.length 0 lo)).take (HT.sIx xs.length xs.length hi-HT.sIx xs.length 0 lo)
theorem Zbd(xs:List V)(lo hi:Option Int):(Ux xs lo hi).length<=xs.length:=by
 unfold Ux;rw [List.length_take,List.length_drop];omega
def ZlZ(K:PySem.W.Frag):V->Option Int->Option Int->Hp->VK->Prop:=λx lo hi H Q=>∃a xs,x = .ref a/\SqT K H a xs /\
 ¬(HT.sIx xs.length 0 lo=0/\HT.sIx xs.length xs.length hi=xs.length)/\∀p,H p=none->Q (.ref p) (upd H p (.tup (Ux xs lo hi)))
theorem Zir:SlR X (ZlZ X.K):=by
 intro pins s σ H x v vl vu lo hi sl Q I rx hs pl pu h;obtain⟨a,xs,rfl,hx,hw,q⟩:=h;cases rx;obtain⟨its,r,ht,hz⟩:=I.tuple hx;have hlen:its.toArray.size=xs.length:=by rw [List.size_toArray];exact r.length.symm
 refine⟨"tuple",_,PyProof.Rows.slot_tuple_getitem.lookup,ht.typeIs,?_⟩;refine HT.getItem_tuple_cut ht hs pl pu (by rw [hlen];exact hw) ?_ (by rw [hlen];exact hz);rw [hlen];refine⟨.ref s.heap.objs.size,_,I.laid (t':=s.toks) (o:=.tup (Ux xs lo hi)) (λb ob q=>Heap.get?_push_of_some _ q) (Nat.le_refl _) ?_,rfl,q _ (I.hok.fresh (Nat.le_refl _))⟩;exact⟨Nat.le_trans (Zbd xs lo hi) hz,_,(r.drop (HT.sIx xs.length 0 lo)).take (HT.sIx xs.length xs.length hi-HT.sIx xs.length 0 lo),TupN.new _ _⟩
end
end L2
namespace L2
open PySem PySem.Spec PyProof.Rows
def ixN(n:Nat)(i:Int):Option Nat:=if 0<=i then(if i<n then some i.toNat else none)else if -(n:Int)<=i then some (i+n).toNat else none
def atI{α:Type}(xs:List α)(i:Int):Option α:=(ixN xs.length i).bind λj=>xs[j]?
theorem Zg3{n:Nat}{i:Int}{j:Nat}(h:ixN n i=some j):seqIndex? i n=some j/\j<n /\ -(n:Int)<=i/\i<n:=by
 unfold ixN at h
 by_cases h0:0<=i
 · rw [if_pos h0]at h
   by_cases h1:i<n
   · rw [if_pos h1]at h
     have e:i.toNat=j:=Option.some.inj h;exact⟨by rw [seqIndex_of h0 h1,e],by omega,by omega,h1⟩
   · rw [if_neg h1]at h;cases h
 · rw [if_neg h0]at h
   by_cases h1 : -(n:Int)<=i
   · rw [if_pos h1]at h
     have e:(i+n).toNat=j:=Option.some.inj h;exact⟨by rw [seqIndex_neg (by omega) h1,e],by omega,h1,by omega⟩
   · rw [if_neg h1]at h;cases h
theorem Zcy{α:Type}{xs:List α}{i:Int}{v:α}(h:atI xs i=some v):∃j,seqIndex? i xs.length=some j/\xs[j]? = some v/\j<xs.length /\ -(xs.length:Int)<=i/\i<xs.length:=by
 unfold atI at h;cases e:ixN xs.length i with
 |none=>rw [e]at h;cases h
 |some j=>
  rw [e]at h;obtain⟨h1,h2,h3,h4⟩:=Zg3 e;exact⟨j,h1,h,h2,h3,h4⟩
theorem ZbF{α:Type}{xs:List α}{j:Nat}{v:α}(h:xs[j]? = some v):atI xs (j:Int)=some v:=by
 have hj:j<xs.length:=(List.getElem?_eq_some_iff.mp h).1
 have e:ixN xs.length (j:Int)=some j:=by
  unfold ixN;rw [if_pos (by omega),if_pos (by omega)];simp
 unfold atI;rw [e];exact h
def Zg4(b:Expr):Prop:=∀o i,subscripted b false o i=operate [o,i] (getItem o i)
def IxR(X:Cx)(r:R2):Prop:=
 ∀(value slice:Expr)(pins:List (Addr×Obj))(s:Shared)(σ:St)(H:Hp)(x y:V)(v u:Value)(Q:VK),Inv X pins σ H s->RelV x v->RelV y u->r x y H Q ->
  subscripted slice false v u=operate [v,u] (getItem v u)->wpAny (model X.prog X.w) X.A (subscriptTail value slice v u) (EP X pins σ Q) X.xe s
def MtR(X:Cx)(id:String)(r:V->List V->Hp->VK->Prop):Prop:=
 ∀(pins:List (Addr×Obj))(s:Shared)(σ:St)(H:Hp)(x:V)(xs:List V)(v:Value)(us:List Value)(Q:VK),Inv X pins σ H s->RelV x v->Vals xs us->r x xs H Q ->
  wpAny (model X.prog X.w) X.A (call (.builtin id) (v::us)) (EP X pins σ Q) X.xe s
section
variable{X:Cx}{a b:Expr}{ta tb:TE}{pos:Pos}
theorem IxR.or{r r':R2}(h:IxR X r)(h':IxR X r'):IxR X (λx y H Q=>r x y H Q\/r' x y H Q):=by
 intro value slice pins s σ H x y v u Q I rx ry q hs;rcases q with q|q
 · exact h value slice pins s σ H x y v u Q I rx ry q hs
 · exact h' value slice pins s σ H x y v u Q I rx ry q hs
theorem ZB{r:R2}(hr:IxR X r)(ha:PE X a ta)(hb:PE X b tb)(hs:Zg4 b):PE X (.Subscript a b pos) (tOp r ta tb):=by
 intro pins s σ H Q I h;exact Subscript_ (ZjT ha hb I h λv u s2 x y H2 I2 rx ry q=>hr a b pins s2 σ H2 x y v u Q I2 rx ry q (hs _ _))
def Zl0(K:PySem.W.Frag):R2:=λx y H Q=>∃p xs i v,x = .ref p/\y = .int i/\SqL K H p xs/\atI xs i=some v/\Q v H
def Zl1(K:PySem.W.Frag):R2:=λx y H Q=>∃p xs i v,x = .ref p/\y = .int i/\SqT K H p xs/\atI xs i=some v/\Q v H
def rIxS:R2:=λx y H Q=>∃z i c,x = .str z/\y = .int i/\z.length<=sizeLine/\atI z.cps.toList i=some c/\Q (.str ⟨#[c]⟩) H
theorem ix_list:IxR X (Zl0 X.K):=by
 intro value slice pins s σ H x y v u Q I rx ry h hs;obtain⟨p,xs,i,z,rfl,rfl,hq,he,q⟩:=h;cases rx;obtain⟨t,rfl⟩:=ry;obtain⟨its,r,pl,hz⟩:=I.list hq;obtain⟨j,h1,h2,h3,h4,h5⟩:=Zcy he;obtain⟨w,ew,rw'⟩:=r.get h2;have hl:=r.length;have hn:=Q6;have fin:EP X pins σ Q w s:=⟨z,H,I,rw',q⟩
 by_cases h0:0<=i
 · have hj : i.toNat = j := by
    rw [seqIndex_of h0 h5]at h1;exact Option.some.inj h1
   exact item_listR pl.isList h0 (by omega) (by rw [hj];simpa using ew) fin hs
 · have hj : (i + (its.toArray.size : Int)).toNat = j := by
    rw [seqIndex_neg (by omega) h4]at h1;rw [List.size_toArray,<-hl];exact Option.some.inj h1
   exact subscriptTail_builtinR (x:=w) pl.isList.typeIs slot_list_getitem.lookup
    (wpAny_getItem_list_neg (Q:=λr s'=>r=w/\EP X pins σ Q r s') pl.isList (by omega) (by rw [List.size_toArray]<;>omega) (by omega) (by rw [hj];simpa using ew) ⟨rfl,fin⟩) hs
theorem ix_tup:IxR X (Zl1 X.K):=by
 intro value slice pins s σ H x y v u Q I rx ry h hs;obtain⟨p,xs,i,z,rfl,rfl,hq,he,q⟩:=h;cases rx;obtain⟨t,rfl⟩:=ry;obtain⟨its,r,pl,hz⟩:=I.tuple hq;obtain⟨j,h1,h2,h3,h4,h5⟩:=Zcy he;obtain⟨w,ew,rw'⟩:=r.get h2;have hl:=r.length;have hn:=Q6;have fin:EP X pins σ Q w s:=⟨z,H,I,rw',q⟩
 exact subscriptTail_builtinR (x:=w) pl.typeIs slot_tuple_getitem.lookup
  (getItem_tuple (j:=j) (Q:=λr s'=>r=w/\EP X pins σ Q r s') pl (by omega) (by omega) (by rw [List.size_toArray,<-hl];exact h1) (by simpa using ew) ⟨rfl,fin⟩) hs
theorem Zis:IxR X rIxS:=by
 intro value slice pins s σ H x y v u Q I rx ry h hs;obtain⟨z,i,c,rfl,rfl,hz,he,q⟩:=h;obtain⟨t,rfl⟩:=rx;obtain⟨t',rfl⟩:=ry;obtain⟨j,h1,h2,h3,h4,h5⟩:=Zcy he;have hl:z.cps.toList.length=z.length:=by simp [Str.length]
 rw [hl]at h1 h4 h5;have hn:=Q6
 exact tail_any (typeIs_str s z t) slot_str_getitem.lookup (getItem_str (c:=c) (by
  have e1:decide (i < -(2 ^ 63:Int))=false:=decide_eq_false (by omega);have e2:decide (i ≥ 2 ^ 63)=false:=decide_eq_false (by omega);rw [e1,e2,Bool.or_false]) (by rw [h1];simpa using h2) ⟨.str ⟨#[c]⟩,H,I.tok _,⟨_,rfl⟩,q⟩) hs
theorem Inv.lst{pins:List (Addr×Obj)}{σ:St}{H:Hp}{s:Shared}{p:Addr}{xs:List V}(I:Inv X pins σ H s)(h:H p=some (.lst xs)) :
 ∃(its:List Value) (n:Nat),Vals xs its/\s.heap.get? p=some { cls := .type "list",data := .seq its.toArray n }/\xs.length<=sizeLine:=by
 obtain⟨z,its,n,r,e⟩:=I.hok p _ h;exact⟨its,n,r,e,z⟩
theorem Zcm(lo hi:Option Int)(n:Nat):(sliceBounds lo hi none n).1=((HT.sIx n 0 lo:Nat):Int)/\(sliceBounds lo hi none n).2.1=((HT.sIx n n hi:Nat):Int)/\(sliceBounds lo hi none n).2.2=1:=by
 refine⟨?_,?_,rfl⟩
 · cases lo with
   |none=>simp [sliceBounds,HT.sIx]
   |some i=>
    simp only [sliceBounds,HT.sIx,Option.getD_none,show(1:Int)>0 by decide,if_true]
    by_cases h:i<0
    · simp only [h,if_true]<;>omega
    · simp only [h,if_false]<;>omega
 · cases hi with
   |none=>simp [sliceBounds,HT.sIx]
   |some i=>
    simp only [sliceBounds,HT.sIx,Option.getD_none,show(1:Int)>0 by decide,if_true]
    by_cases h:i<0
    · simp only [h,if_true]<;>omega
    · simp only [h,if_false]<;>omega
theorem ZbS(its:List Value)(lo hi:Option Int):slicePick its.toArray lo hi none=((its.drop (HT.sIx its.length 0 lo)).take (HT.sIx its.length its.length hi-HT.sIx its.length 0 lo)).toArray:=by
 obtain⟨h1,h2,h3⟩:=Zcm lo hi its.toArray.size;unfold slicePick;rw [h1,h2,h3];simp only [sliceRange_one,pick_run,List.size_toArray]<;>rfl
def Zl2(K:PySem.W.Frag):V->Option Int->Option Int->Hp->VK->Prop:=λx lo hi H Q=>∃a xs,x = .ref a/\SqL K H a xs/\∀p,H p=none->Q (.ref p) (upd H p (.lst (Ux xs lo hi)))
theorem sl_list:SlR X (Zl2 X.K):=by
 intro pins s σ H x v vl vu lo hi sl Q I rx hs pl pu h;obtain⟨a,xs,rfl,hx,q⟩:=h;cases rx;obtain⟨its,r,ht,hz⟩:=I.list hx;have hlen:=r.length;refine⟨"list",_,slot_list_getitem.lookup,ht.isList.typeIs,?_⟩;refine wpAny_getItem_list_slice ht.isList hs pl pu .none (by simp) ?_ (by rw [List.size_toArray]<;>omega);rw [ZbS,<-hlen];refine⟨.ref s.heap.objs.size,_,I.laid (t':=s.toks) (o:=.lst (Ux xs lo hi)) (λb ob q=>Heap.get?_push_of_some _ q) (Nat.le_refl _) ?_,rfl,q _ (I.hok.fresh (Nat.le_refl _))⟩
 exact⟨Nat.le_trans (Zbd xs lo hi) hz,_,0,(r.drop (HT.sIx xs.length 0 lo)).take (HT.sIx xs.length xs.length hi-HT.sIx xs.length 0 lo),Heap.get?_push_size _ rfl⟩
def VY:V->Bool
 | .non=>true
 | .bl _=>true
 | .int _=>true
 | .str _=>true
 |_=>false
def eqV:V->V->Bool
 | .non,.non=>true
 | .bl a,.bl b=>a == b
 | .bl a,.int b=>(if a then 1 else 0) == b
 | .int a,.bl b=>a == (if b then 1 else 0)
 | .int a,.int b=>a == b
 | .str a,.str b=>a == b
 |_,_=>false
theorem Zit{A:Around}{s:Shared}{y x:V}{u v:Value}(ry:RelV y u)(rx:RelV x v)(fy:VY y=true)(fx:VY x=true):SeqAt.EqAt A s u v (eqV y x):=by
 cases y with
 |non=>
  cases ry;cases x with
  |non=>cases rx;exact SeqAt.EqAt.same _
  |bl b=>cases rx;exact SeqAt.EqAt.none_bool b
  |int b=>obtain⟨t,rfl⟩:=rx;exact SeqAt.EqAt.none_int b t
  |str b=>obtain⟨t,rfl⟩:=rx;exact SeqAt.EqAt.none_str b t
  |_=>exact absurd (show false=true from fx) Bool.false_ne_true
 |bl a=>
  cases ry;cases x with
  |non=>cases rx;exact SeqAt.EqAt.bool_none a
  |bl b=>cases rx;exact SeqAt.EqAt.bool_bool a b
  |int b=>obtain⟨t,rfl⟩:=rx;exact SeqAt.EqAt.bool_int a b t
  |str b=>obtain⟨t,rfl⟩:=rx;exact SeqAt.EqAt.bool_str a b t
  |_=>exact absurd (show false=true from fx) Bool.false_ne_true
 |int a=>
  obtain⟨t',rfl⟩:=ry;cases x with
  |non=>cases rx;exact SeqAt.EqAt.int_none a t'
  |bl b=>cases rx;exact SeqAt.EqAt.int_bool a t' b
  |int b=>obtain⟨t,rfl⟩:=rx;exact SeqAt.EqAt.int_int a t' b t
  |str b=>obtain⟨t,rfl⟩:=rx;exact SeqAt.EqAt.int_str a t' b t
  |_=>exact absurd (show false=true from fx) Bool.false_ne_true
 |str a=>
  obtain⟨t',rfl⟩:=ry;cases x with
  |non=>cases rx;exact SeqAt.EqAt.str_none a t'
  |bl b=>cases rx;exact SeqAt.EqAt.str_bool a t' b
  |int b=>obtain⟨t,rfl⟩:=rx;exact SeqAt.EqAt.str_int a t' b t
  |str b=>obtain⟨t,rfl⟩:=rx;exact SeqAt.EqAt.str_str a t' b t
  |_=>exact absurd (show false=true from fx) Bool.false_ne_true
 |_=>exact absurd (show false=true from fy) Bool.false_ne_true
def eqU(x:V)(u:Value):Bool:=match u with
 | .none=>eqV .non x
 | .bool b=>eqV (.bl b) x
 | .int i _=>eqV (.int i) x
 | .str z _=>eqV (.str z) x
 |_=>false
theorem Zgm{x y:V}{u:Value}(r:RelV y u)(f:VY y=true):eqU x u=eqV y x:=by
 cases y with
 |non=>cases r;rfl
 |bl b=>cases r;rfl
 |int i=>obtain⟨t,rfl⟩:=r;rfl
 |str z=>obtain⟨t,rfl⟩:=r;rfl
 |_=>exact absurd (show false=true from f) Bool.false_ne_true
theorem Zcz{x:V}:∀{xs:List V}{us:List Value},Vals xs us->xs.all VY=true->us.any (eqU x)=xs.any λy=>eqV y x
 |_,_,.nil,_=>rfl
 |y::xs,u::us,.cons r t,f=>by
  rw [List.all_cons,Bool.and_eq_true]at f;rw [List.any_cons,List.any_cons,Zgm r f.1,Zcz t f.2]
theorem ZbK{A:Around}{s:Shared}{x:V}{v:Value}(rx:RelV x v)(fx:VY x=true):∀{xs:List V}{us:List Value},Vals xs us->xs.all VY=true->∀u∈us,SeqAt.EqAt A s u v (eqU x u)
 |_,_,.nil,_=>λu hu=>by cases hu
 |y::xs,u::us,.cons r t,f=>λu' hu=>by
  rw [List.all_cons,Bool.and_eq_true]at f;rcases List.mem_cons.mp hu with rfl|hu
  · rw [Zgm r f.1];exact Zit r rx f.1 fx
  · exact ZbK rx fx t f.2 u' hu
def inV(x:V)(xs:List V):Bool:=xs.any λy=>eqV y x
def rIn(K:PySem.W.Frag)(neg:Bool):R2:=λx y H Q=>∃p xs,y = .ref p/\(SqL K H p xs\/SqT K H p xs)/\VY x=true/\xs.all VY=true/\Q (.bl (if neg then !inV x xs else inV x xs)) H
theorem ZeQ:OpR X (compareOp .In) (rIn X.K false):=by
 intro pins s σ H x y v u Q I rx ry h;obtain⟨p,xs,rfl,hq,fx,fs,q⟩:=h;cases ry;rcases hq with hq|hq
 · obtain⟨its,r,pl,hz⟩:=I.list hq
   refine SeqAt.in_listAt (eqU x) pl.isList (λw hw=>ZbK rx fx r fs w (by simpa using hw)) ⟨.bl _,H,I,rfl,?_⟩;rw [show its.toArray.any (eqU x)=its.any (eqU x) by simp,Zcz r fs];exact q
 · obtain⟨its,r,pl,hz⟩:=I.tuple hq
   refine SeqAt.in_tupleAt (eqU x) pl (λw hw=>ZbK rx fx r fs w (by simpa using hw)) ⟨.bl _,H,I,rfl,?_⟩;rw [show its.toArray.any (eqU x)=its.any (eqU x) by simp,Zcz r fs];exact q
theorem Zcn:Y9 X (.builtin "len") (λxs H Q=>∃p ys,xs=[.ref p]/\(SqL X.K H p ys\/SqT X.K H p ys)/\Q (.int ys.length) H):=by
 intro pins s σ H xs us Q I r h;obtain⟨p,ys,rfl,hq,q⟩:=h;obtain⟨u,rfl,rx⟩:=Xf r;cases rx;have hn:=Q6;rcases hq with hq|hq
 · obtain⟨its,r',pl,hz⟩:=I.list hq
   have hlen:=r'.length;exact Calls.call_len_list pl.isList (by simp only [List.size_toArray]<;>omega) ⟨.int ys.length,H,I.tok _,⟨s.toks+1,by rw [List.size_toArray,hlen]⟩,q⟩
 · obtain⟨its,r',pl,hz⟩:=I.tuple hq
   have hlen:=r'.length;exact len_tuple pl (by simp only [List.size_toArray]<;>omega) ⟨.int ys.length,H,I.tok _,⟨s.toks+1,by rw [List.size_toArray,hlen]⟩,q⟩
theorem Zco:Y9 X (.builtin "len") (λxs H Q=>∃z,xs=[.str z]/\z.length<=sizeLine/\Q (.int z.length) H):=by
 intro pins s σ H xs us Q I r h;obtain⟨z,rfl,hz,q⟩:=h;obtain⟨u,rfl,t,rfl⟩:=Xf r;have hn:=Q6;exact len_str (by omega) ⟨.int z.length,H,I.tok _,⟨_,rfl⟩,q⟩
theorem Zcp:Y9 X (.type "list") (λxs H Q=>∃p ys,xs=[.ref p]/\(SqL X.K H p ys\/SqT X.K H p ys)/\∀l,H l=none->Q (.ref l) (upd H l (.lst ys))):=by
 intro pins s σ H xs us Q I r h;obtain⟨p,ys,rfl,hq,q⟩:=h;obtain⟨u,rfl,rx⟩:=Xf r;cases rx
 have fin:∀(its:List Value),Vals ys its->ys.length<=sizeLine->∀(h':Heap)(c':Nat),(∀b o',s.heap.get? b=some o'->h'.get? b=some o') ->
  h'.get? s.heap.objs.size=some { cls := .type "list",dict:=none,data := .seq its.toArray c',slots := #[] }->EP X pins σ Q (.ref s.heap.objs.size) { s with heap:=h' }:=λits r' hz h' c' kp e=>
  ⟨.ref s.heap.objs.size,_,I.laid (t':=s.toks) kp (Nat.le_refl _) (show ObjOk X.prog X.w _ h' _ (.lst ys)from⟨hz,its,c',r',e⟩),rfl,q _ (I.hok.fresh (Nat.le_refl _))⟩
 rcases hq with hq|hq
 · obtain⟨its,r',pl,hz⟩:=I.list hq
   have hlen:=r'.length;obtain⟨o,ho,hc,n,hd⟩:=pl.isList;exact call_list_seq p (.inl rfl) ho hc hd (λh' c' kp e=>fin its r' hz h' c' kp e) (by simp only [List.size_toArray]<;>omega)
 · obtain⟨its,r',pl,hz⟩:=I.tuple hq
   have hlen:=r'.length;obtain⟨o,ho,hc,n,hd⟩:=pl;exact call_list_seq p (.inr rfl) ho hc hd (λh' c' kp e=>fin its r' hz h' c' kp e) (by simp only [List.size_toArray]<;>omega)
theorem ZbT:Y9 X (.type "tuple") (λxs H Q=>∃p ys,xs=[.ref p]/\((SqL X.K H p ys/\∀l,H l=none->Q (.ref l) (upd H l (.tup ys)))\/(SqT X.K H p ys/\Q (.ref p) H))):=by
 intro pins s σ H xs us Q I r h;obtain⟨p,ys,rfl,h⟩:=h;obtain⟨u,rfl,rx⟩:=Xf r;cases rx;rcases h with⟨hq,q⟩|⟨hq,q⟩
 · obtain⟨its,r',pl,hz⟩:=I.list hq
   have hlen:=r'.length;refine call_tuple_list pl.isList (λh' kp => ?_) (by simp only [List.size_toArray]<;>omega);have I1:Inv X pins σ H { s with heap:=h' }:=I.kept (t':=s.toks) kp
   have I2:Inv X pins σ (upd H h'.objs.size (.tup ys)) { s with heap:=h'.push { cls := .type "tuple",data := .seq its.toArray } }:=
    I1.laid (t':=s.toks) (λb o e=>Heap.get?_push_of_some _ e) (Nat.le_refl _) (show ObjOk X.prog X.w _ _ _ (.tup ys)from⟨hz,its,r',TupN.new _ _⟩)
   exact⟨.ref h'.objs.size,_,I2,rfl,q _ (I1.hok.fresh (Nat.le_refl _))⟩
 · obtain⟨its,r',pl,hz⟩:=I.tuple hq
   exact call_tuple_same pl ⟨.ref p,H,I,rfl,q⟩
def tyV(K:PySem.W.Frag)(T:String)(x:V)(H:Hp):Prop:=match x with
 | .str _=>T = "str"
 | .int _=>T = "int"
 | .ref p=>(T = "list" /\ ∃xs,SqL K H p xs)\/(T = "tuple" /\ ∃o,K.lookup p=some o/\o.cls = .type "tuple" /\ o.dict=none) \/
  (T = "dict" /\ ((∃kvs,H p=some (.dK kvs))\/∃kvs,H p=some (.dT kvs)))\/(T = "set" /\ ∃S n,H p=some (.set S n))\/(T = "tuple" /\ ∃xs,H p=some (.tup xs))
 |_=>False
theorem Ziu{pins:List (Addr×Obj)}{σ:St}{H:Hp}{s:Shared}{T:String}{x:V}{v:Value}(I:Inv X pins σ H s)(r:RelV x v)(ty:tyV X.K T x H) :
 s.TypeIs v T/\∀a,v = .ref a->∃ob,s.heap.get? a=some ob/\ob.dict=none:=by
 cases x with
 |str z=>
  obtain⟨t,rfl⟩:=r;cases(show T = "str" from ty);exact⟨typeIs_str s z t,λ_ e=>nomatch e⟩
 |int i=>
  obtain⟨t,rfl⟩:=r;cases(show T = "int" from ty);exact⟨typeIs_int s i t,λ_ e=>nomatch e⟩
 |ref p=>
  cases r;rcases ty with⟨rfl,xs,hq⟩|⟨rfl,o,hk,hc,hd⟩|⟨rfl,hk⟩|⟨rfl,S,n,hk⟩|⟨rfl,xs,hk⟩
  · obtain⟨its,_,pl,_⟩:=I.list hq
    refine⟨pl.isList.typeIs,λa e => ?_⟩;cases e;obtain⟨o,n,e,c,hd,_⟩:=pl;exact⟨o,e,hd⟩
  · refine⟨⟨o,I.kIn p o hk,hc⟩,λa e => ?_⟩
    cases e;exact⟨o,I.kIn _ o hk,hd⟩
  · have z : ∃ o, s.heap.get? p = some o /\ o.ExactDict := by
     rcases hk with⟨kvs,hk⟩|⟨kvs,hk⟩
     · obtain⟨_,_,_,_,o,_,_,e,ex,_⟩:=I.hok p _ hk
       exact⟨o,e,ex⟩
     · obtain⟨_,_,_,_,o,_,_,e,ex,_⟩:=I.hok p _ hk
       exact⟨o,e,ex⟩
    obtain⟨o,e,ex⟩:=z;refine⟨⟨o,e,ex.1⟩,λa e2 => ?_⟩;cases e2;exact⟨o,e,ex.2.1⟩
  · obtain⟨o,_,_,_,e,ex,_⟩:=I.hok p _ hk
    refine⟨⟨o,e,ex.1⟩,λa e2 => ?_⟩;cases e2;exact⟨o,e,ex.2.1⟩
  · obtain⟨_,its,_,o,e,c,_,dn⟩:=(show ObjOk X.prog X.w H s.heap p (.tup xs)from I.hok p _ hk)
    refine⟨⟨o,e,c⟩,λa e2 => ?_⟩;cases e2;exact⟨o,e,dn⟩
 |_=>exact False.elim ty
def tBM(K:PySem.W.Frag)(T:String)(r:V->List V->Hp->VK->Prop)(to:TE)(t:TA):TE:=λσ H Q=>to σ H λx H1=>tyV K T x H1/\t σ H1 λxs H2=>r x xs H2 Q
variable{o e:Expr}{es:List Expr}{to:TE}{t:TA}{name:Str}{apos cpos:Pos}{T id:String}{r:V->List V->Hp->VK->Prop}
theorem Zkx (pa:PlainAttrs T) (slot:Slot T name id) (hty:typeOf (.builtin id)=pure (.type "method_descriptor")) (hm:MtR X id r) (ho:PE X o to) (ha:PA X (e::es) t)
 (hbase:attributeBase o name X.env (eval o X.env)=eval o X.env:=by rfl)
 (hfew:((backTo cpos (starEach (e::es) X.env)).all (λx => !x.1)&&(backToKw cpos (keywordEach [] X.env)).all (λx=>x.1.isSome)
   && decide ((e::es).length+([]:List Keyword).length+(if([]:List Keyword).isEmpty then 0 else 1)<30))=true:=by rfl)
 (hline:(apos.endLine == cpos.line)=true:=by rfl) (hs:starEach (e::es) X.env=(false,eval e X.env)::starEach es X.env:=by rfl) (hplain:(backTo cpos (starEach es X.env)).any (·.1)=false:=by rfl) :
 PE X (.Call (.Attribute o name apos) (e::es) [] cpos) (tBM X.K T r to t):=by
 intro pins s σ H Q I h;refine wpAny_Call_method_late hbase hfew hline rfl (thn (ho pins s σ H _ I h) λv s1 ⟨x,H1,I1,r1,ty,q1⟩ => ?_);obtain⟨h1,h2⟩:=Ziu I1 r1 ty;refine⟨T,id,pa,slot,hty,h1,h2,?_⟩;have hA:=ha cpos pins s1 σ H1 _ I1 q1;rw [hs]at hA ⊢;refine Calls.callWith_builtin (by show(false||(backTo cpos (starEach es X.env)).any (·.1))=false;rw [hplain]<;>rfl) (Calls.evalArgs_plain ?_)
 exact thn hA λus s2 ⟨vs,H2,I2,r2,q2⟩=>hm pins s2 σ H2 x vs v us Q I2 r1 r2 q2
end
end L2
namespace L2
open PySem PySem.Spec PyProof.Rows
def MtM(X:Cx)(id:String)(r:V->List V->Hp->VK->Prop):Prop:=
 ∀(pins:List (Addr×Obj))(s:Shared)(σ:St)(H:Hp)(x:V)(xs:List V)(v:Value)(us:List Value)(Q:VK),Inv X pins σ H s->RelV x v->Vals xs us->r x xs H Q ->
  wpAny (model X.prog X.w) X.A (call (.builtin id) (v::us)) (EP X pins σ Q) X.xe s
theorem Vals.one:∀{x:V}{us:List Value},Vals [x] us->∃u,us=[u]/\RelV x u
 |_,_,.cons r .nil=>⟨_,rfl,r⟩
theorem Vals.two:∀{x y:V}{us:List Value},Vals [x,y] us->∃u v,us=[u,v]/\RelV x u/\RelV y v
 |_,_,_,.cons r (.cons q .nil)=>⟨_,_,rfl,r,q⟩
section
variable{X:Cx}{pins:List (Addr×Obj)}{σ:St}{H:Hp}{s:Shared}{l b:Addr}{xs ys zs:List V}
theorem Inv.lset {its its':List Value} {n:Nat} {f:Array Value->Array Value} {t':Nat} (I:Inv X pins σ H s) (hH:H l=some (.lst xs))
 (e:s.heap.get? l=some { cls := .type "list",data := .seq its.toArray n }) (hf:f its.toArray=its'.toArray) (hv:Vals ys its') (hz:ys.length<=sizeLine) :
 Inv X pins σ (upd H l (.lst ys)) { s with heap:=s.heap.update l (Obj.mapSeq f),toks:=t' }:=by
 have q:=PySem.IsL.update e f;rw [hf]at q;refine I.write (x:=l) (e:=l) (by rw [hH];exact trivial) (.inl rfl) (λb' u hb hu=>(Heap.get?_update_other s.heap (Obj.mapSeq f) (Ne.symm hb)).trans hu) ⟨_,q⟩ ?_;exact⟨hz,its',_,hv,q⟩
theorem Inv.lnew{its:List Value}{t':Nat}(I:Inv X pins σ H s)(hv:Vals ys its)(hz:ys.length<=sizeLine) :
 Inv X pins σ (upd H s.heap.objs.size (.lst ys)) { s with heap:=s.heap.push { cls := .type "list",data := .seq its.toArray },toks:=t' }:=
 I.laid (λ_ _ q=>Heap.get?_push_of_some _ q) (Nat.le_refl _) ⟨hz,its,0,hv,Heap.get?_push_size _ rfl⟩
theorem Inv.fresh(I:Inv X pins σ H s):H s.heap.objs.size=none:=I.hok.fresh (Nat.le_refl _)
theorem Inv.lstM(I:Inv X pins σ H s)(hH:H l=some (.lst xs)):xs.length<=sizeLine/\∃(its:List Value) (n:Nat),Vals xs its/\xs.length=its.length/\s.heap.get? l=some { cls := .type "list",data := .seq its.toArray n }:=by
 obtain⟨z,its,n,r,e⟩:=I.hok l _ hH;exact⟨z,its,n,r,r.length,e⟩
end
section
variable{X:Cx}
def rAppend:V->List V->Hp->VK->Prop:=λx vs H Q=>∃l xs y,x = .ref l/\vs=[y]/\H l=some (.lst xs)/\xs.length<sizeLine/\Q .non (upd H l (.lst (xs++[y])))
theorem Za1:MtM X "list.append" rAppend:=by
 intro pins s σ H x vs v us Q I rx rv h;obtain⟨l,xs,y,rfl,rfl,hH,hz,q⟩:=h;cases rx;obtain⟨u,rfl,ru⟩:=rv.one;obtain⟨z,its,n,r,hl,e⟩:=I.lstM hH;refine call_meets F.slot_list_append ⟨_,e,rfl⟩ F.entry_list_append (F.args_list_append_2 _ _) (PySem.list_append l its.toArray n u (by rw [List.size_toArray];omega)) ⟨e,?_⟩;refine⟨.non,_,I.lset (its':=its++[u]) hH e (by simp) (r.append (.cons ru .nil)) ?_,rfl,q⟩
 rw [List.length_append,List.length_singleton];omega
def rCat:R2:=λx y H Q=>∃l b xs zs,x = .ref l/\y = .ref b/\H l=some (.lst xs)/\H b=some (.lst zs)/\xs.length+zs.length<=sizeLine/\∀p,H p=none->Q (.ref p) (upd H p (.lst (xs++zs)))
theorem Ziv:OpR X (binaryOp .Add) rCat:=by
 intro pins s σ H x y v u Q I rx ry h;obtain⟨l,b,xs,zs,rfl,rfl,hH,hB,hz,q⟩:=h;cases rx;cases ry;obtain⟨z,its,n,r,hl,e⟩:=I.lstM hH;obtain⟨z2,its2,n2,r2,hl2,e2⟩:=I.lstM hB;refine PySem.P.add_list e e2 ?_ (by rw [List.size_toArray,List.size_toArray];omega);have ea:its.toArray++its2.toArray=(its++its2).toArray:=by simp
 rw [ea];exact⟨.ref _,_,I.lnew (t':=s.toks) (r.append r2) (by rw [List.length_append];omega),rfl,q _ I.fresh⟩
end
section
variable{prog:Program}{w:World}{A:Around}{E:Value->Shared->Prop}{s:Shared}
set_option maxRecDepth 100000 in
end
section
variable{X:Cx}
end
end L2
namespace Att
open PySem PySem.W PySem.Calls PyProof.Rows
theorem Zbj{P:Params}{h:Heap}:∀(ns:List Int)(vs:List Value),WellAll P h vs (ns.map WData.int)->IntsAre vs ns:=by
 intro ns
 induction ns with
 |nil=>
  intro vs w;rw [List.map_nil]at w;cases w;exact .nil
 |cons n ns ih=>
  intro vs w;rw [List.map_cons]at w;cases w with
  |cons a b=>
   cases a;exact .cons _ _ (ih _ b)
theorem ZeR {l:OpenLaw} {n:Nat} (hn:l.most=some n) {P:Params} {h:Heap} {args:List WData} {vals:List Value}
 (hpre:l.row.toRowW.claim.pre args=true) (hwl:WellAll P h vals args) :
 ∃a vs ns,vals=[Value.ref a]/\args=[WData.list (ns.map WData.int)]/\h.get? a=some { cls := .type "list",data := .seq vs.toArray }/\IntsAre vs ns/\ns.length<=n:=by
 have hsh:WShape.hasAll [] args [.list .int]=true:=(pre_splitW hpre).1;have hc:l.pre.holds [] { args:=args }=true:=(pre_splitW hpre).2;obtain⟨d,r,rfl,h1,h2⟩:=hasAllW_cons hsh;obtain rfl:=hasAllW_nil h2;obtain⟨xs,rfl,h3⟩:=hasW_list h1;obtain⟨ns,rfl⟩:=items_int h3
 have hlen:ns.length<=n:=by
  unfold OpenLaw.pre at hc
  have h4:(WTm.not (.lt (.lit (.int (n:Int))) (.len (.arg 0)))).holds [] { args:=[.list (ns.map .int)] }=true:=by
   have h4:=(holds_andW hc).1;rw [hn]at h4;exact h4
  have h5:=condW_of h4 (w_not (w_lt w_lit (w_len_list (w_arg rfl))));rw [List.length_map]at h5;refine Nat.le_of_not_lt λq => ?_
  have q':(n:Int)<((ns.length:Nat):Int):=by omega
  first
   |(rw [decide_eq_true q']at h5;exact absurd h5 (by decide))
   |(simp at h5;omega)
 cases hwl with
 |cons w1 w2=>
  cases w2;cases w1 with
  |list ho hall=>exact⟨_,_,ns,rfl,rfl,ho,Zbj ns _ hall,hlen⟩
theorem ZeS(l:OpenLaw)(args:List WData):l.row.toRowW.claim.post args (.bool true) args=true:=
 postW_of (r:=l.row.toRowW) (X:=(true == true))
  (show WShape.has [] (.bool true) .bool=true by first|rfl|decide|simp [WShape.has,WShape.arms,WShape.armsAll])
  (show(WTm.eq .res (.lit (.bool true))).value [] { args:=args,res:=some (.bool true),after:=args }=some (.bool (true == true))from w_eq_bool (w_res rfl) w_lit) rfl
theorem attach_call {l:OpenLaw} {n:Nat} {q:Program} {loose:List Str} {XP:(Str->Option Value)->Heap->Prop} {YP:World->Heap->Prop} {d:DefRec}
 (hn:l.most=some n) (hdf:d.params.defaults=[])
 (call:∀(w:World)(s₀ s₁:Shared)(mg mb:Str->Option Value)(fa:Addr)(o:Obj)(pm cd doc:Value)(a:Addr)(vs:List Value)(ns:List Int),
   Ground q loose [] XP w s₀ mg mb s₁.heap->YP w s₁.heap ->
   s₁.heap.get? fa=some o->o.data = .func (docDef d.name d.params d.body d.scope pm cd doc)->s₁.heap.CodeRec cd d.name->mg d.name=some (.ref fa) ->
   s₁.heap.get? a=some { cls := .type "list",data := .seq vs.toArray }->IntsAre vs ns->ns.length<=n->s₁.gens = #[] ->
   codeAny (model l.prog w) callerA (.call (.ref fa) ⟨[.ref a],[]⟩) (λr s'=>r = .ok (.ret (.bool true))/\OldK s₁.heap s'.heap/\s'.os=s₁.os/\AllBare s'.gens) s₁) :
 WalkO q loose XP YP l.row.toRowW d [] (λf vs=>PySem.call f vs):=by
 intro w s₀ s₁ mg mb G Y fa o pm cd doc dV kV ho hd hcd hD hmg hg args vals as hpre hlay hrd hwl hlo;obtain rfl:dV = .none:=Dflts.none hD hdf;obtain rfl:kV = .none:=Dflts.noKw hD;obtain⟨a,vs,ns,rfl,rfl,hobj,hints,hlen⟩:=ZeR hn hpre hwl;refine enter_call (codeAny_mono (call w s₀ s₁ mg mb fa o pm cd doc a vs ns G Y ho (fd_plain hd) hcd hmg hobj hints hlen hg) λr s' hq => ?_);obtain⟨rfl,h2,h3,h4⟩:=hq
 exact⟨.inl ⟨.bool true,.bool true,[],rfl,λ_=>rfl,.bool true,ZeS l _,λ_=>⟨List.Pairwise.nil,λ_ hm=>(nomatch hm)⟩⟩,h2,h3,h4⟩
section
variable{prog:Program}{w:World}{A:Around}{E:Value->Shared->Prop}{s:Shared}{K:Frag}
end
end Att
namespace L2
open PySem PySem.Spec PyProof.Rows
theorem Zb6:∀{vs:List Value}{ns:List Int},IntsAre vs ns->Vals (ns.map V.int) vs
 |_,_,.nil => .nil
 |_,_,.cons n t h => .cons ⟨t,rfl⟩ (Zb6 h)
end L2
namespace L2
open PySem PySem.Spec PyProof.Rows
end L2
namespace L2
open PySem PySem.Spec PyProof.Rows
def Uy(s:Stmt)(j:Nat):Stmt:=match s with
 | .ClassDef _ _ _ body _ _ _ _ _ _ _=>body.getD j (.Pass ⟨0,0,0,0⟩)
 |_ => .Pass ⟨0,0,0,0⟩
def defArgs(s:Stmt):Arguments:=match s with
 | .FunctionDef _ a _ _ _ _ _ _ _ _=>a
 |_=>{ posonlyargs:=[],args:=[],vararg:=none,kwonlyargs:=[],kw_defaults:=[],kwarg:=none,defaults:=[] }
def defBody(s:Stmt):List Stmt:=match s with
 | .FunctionDef _ _ b _ _ _ _ _ _ _=>b
 |_=>[]
def defScope(s:Stmt):Scope:=match s with
 | .FunctionDef _ _ _ _ _ _ sc _ _ _=>sc
 |_=>{ kind := .function,names:=[],isGenerator:=false,isCoroutine:=false }
abbrev CX0:CXT:=λ_ _ _ _ _ _=>False
abbrev E0:XK:=λ_ _ _=>False
theorem Zv{X:Cx}:VW CX0 X E0:=λ_ _ _ _ _ _ _ h=>h.elim
structure Fun(K:PySem.W.Frag)(x qual:Str)(st:Stmt)(f:Addr)(fd:FuncData):Prop where
 ex:∃(oc:Value) (od:Option Addr) (kV doc pm:Value) (an:Option Addr) (cdv ct:Value) (osl:Array (Option Value)),
  fd=fnOf x qual (defArgs st) (defBody st) (defScope st) .none kV doc pm an cdv ct/\K.lookup f=some ⟨oc,od,.func fd,osl⟩/\codeIn K cdv qual=true
 kp:keepIn K (.ref f)=true
section
variable{P:Program}{w:World}{K:PySem.W.Frag}{mg:Str->Option Value}{base:Heap}
theorem Fun.ok {x qual:Str} {st:Stmt} {f:Addr} {fd:FuncData} {N ps:List Str} {k:Nat} {sp:Sp} (F:Fun K x qual st f fd) (S:FnScope N ps (defScope st)) (len:∀vs H Q E,sp vs H Q E->vs.length=ps.length)
 (hbody:∀(cdv:Value)(A:Around)(outer:List Env)(s:Shared)(H:Hp)(vs:List V)(Q:VK)(E:XK),Room k (A.deeper (envOfC qual (defScope st) s.heap.objs.size f cdv))->sp vs H Q E ->
   ∃t,PSs (YK CX0 P w K mg base N qual (defScope st) f cdv A outer s H E).nox (defBody st) t/\t { nx:=λ_ H'=>Q .non H',rt:=Q } (start N vs) H):FnOk P w K mg base CX0 (k+1) f fd ps sp:=by
 obtain⟨oc,od,kV,doc,pm,an,cdv,ct,osl,rfl,lk,hcd⟩:=F.ex;refine ZgN lk hcd S len λA outer s H vs Q E hr hsp => ?_
 obtain⟨t,h,q⟩:=hbody cdv A outer s H vs Q E hr hsp;exact⟨t,h.nox,q⟩
theorem Fun.binds {x qual:Str} {st:Stmt} {f:Addr} {fd:FuncData} {ps:List Str} (F:Fun K x qual st f fd)
 (h:∀(kV doc pm:Value)(an:Option Addr)(cdv ct:Value)(us:List Value),us.length=ps.length->bindArgs (fnOf x qual (defArgs st) (defBody st) (defScope st) .none kV doc pm an cdv ct) ⟨us,[]⟩=pure (ps.zip us)):Binds K fd ps []:=by
 obtain⟨oc,od,kV,doc,pm,an,cdv,ct,osl,rfl,lk,hcd⟩:=F.ex;exact .all (h kV doc pm an cdv ct)
theorem fun_mk {x qual:Str} {st:Stmt} {f:Addr} {oc:Value} {od an:Option Addr} {osl:Array (Option Value)} {kV doc pm cdv ct:Value} (l:K.lookup f=some ⟨oc,od,.func (fnOf x qual (defArgs st) (defBody st) (defScope st) .none kV doc pm an cdv ct),osl⟩)
 (c:codeIn K cdv qual=true) (k:keepIn K (.ref f)=true):Fun K x qual st f (fnOf x qual (defArgs st) (defBody st) (defScope st) .none kV doc pm an cdv ct):=⟨⟨oc,od,kV,doc,pm,an,cdv,ct,osl,rfl,l,c⟩,k⟩
end
section
variable{X:Cx}
theorem pv (i:Nat) {x:Str} {pos:Pos} (hN:X.N[i]? = some x:=by rfl) (hv:Vis X.env.scope x:=by first|exact Or.inl rfl|exact Or.inr (Or.inl rfl)|exact Or.inr (Or.inr rfl)) (hd:(x == ("__debug__" : Str))=false:=by decide)
 (hcd:(x == ("__classdict__" : Str))=false:=by decide):PE X (.Name x pos) (Uu i):=Zd2 hN hv hd hcd
end
theorem Ue{A B:Prop}(h:B):if false=true then A else B:=by
 rw [if_neg Bool.false_ne_true];exact h
theorem VZ{A B:Prop}(h:A):if true=true then A else B:=by
 rw [if_pos rfl];exact h
def Same(H H':Hp):Prop:=∀b o,H b=some o->H' b=some o
theorem Same.refl(H:Hp):Same H H:=λ_ _ h=>h
theorem Same.trans{H H1 H2:Hp}(a:Same H H1)(b:Same H1 H2):Same H H2:=λc o h=>b c o (a c o h)
theorem Same.free{H H':Hp}(e:Same H H'){l:Addr}(h:H' l=Option.none):H l=Option.none:=by
 cases q:H l with
 |none=>rfl
 |some o=>
  rw [e l o q]at h;cases h
theorem Same.seq{K:PySem.W.Frag}{H H':Hp}{a:Addr}{xs:List V}(e:Same H H')(h:SqL K H a xs):SqL K H' a xs:=by
 rcases h with(h|⟨o,h⟩)|h
 · exact .inl (.inl (e _ _ h))
 · exact .inl (.inr ⟨o,e _ _ h⟩)
 · exact .inr h
end L2
namespace L2
open PySem PySem.Spec PyProof.Rows
section
variable{prog:Program}{w:World}{A:Around}{R:Result->Shared->Prop}{s:Shared}
theorem Zcq {elt target iter:Expr} {ifs:List Expr} {scope:Scope} {pos:Pos} {it acc:Value} {env:Env} (I:Nat->Shared->Prop)
 (turn:∀n s,I n s->wpAny (model prog w) A (pyNext it) (λr s₁=>match r with
   |none=>R (.ok .next) s₁
   |some v=>wpAny (model prog w) A (letOwnedTupleGo target it v) (λ_ s₀=>wpAny (model prog w) A (assign target env v) (λ_ s₂=>
    wpAny (model prog w) A (forIn ifs true λc r=>if r=true then do let ok <-isTrue c env (eval c env);pure (ForInStep.yield ok)else pure (ForInStep.yield r)) (λok s₃=>
     if ok=true then wpAny (model prog w) A (eval elt env) (λx s₄=>
      wpAny (model prog w) A (call (.builtin "list.append") [acc,x]) (λ_ s₅=>∃m,m<n/\I m s₅) (notedBy (model prog w) A env λe s'=>R (.error e) s') s₄) (notedBy (model prog w) A env λe s'=>R (.error e) s') s₃
     else ∃m,m<n/\I m s₃) (notedBy (model prog w) A env λe s'=>R (.error e) s') s₂) (notedBy (model prog w) A env λe s'=>R (.error e) s') s₀) (notedBy (model prog w) A env λe s'=>R (.error e) s') s₁) (notedBy (model prog w) A env λe s'=>R (.error e) s') s)
 (n:Nat) (h:I n s) :
 codeAny (model prog w) A (.compLoop (.ListComp elt [⟨target,iter,ifs,0⟩] scope pos) 0 it acc env) R s:=by
 refine codeAny_loop rfl I (λn s hI => ?_) n h;show wpAny _ A ((compTurn (.ListComp elt [⟨target,iter,ifs,0⟩] scope pos) 0 it acc env).onRaise (λx=>do noteFrame x env;theTreesLotGoes x)) _ _ s;refine wpAny_noted ?_;rw [compTurn_list];refine wpAny_bind (wpAny_standAt (wpAny_bind (wpAny_mono (turn n s hI) (λr s₁ h₁ => ?_) λ_ _ h'=>h')));cases r with
 |none=>exact wpAny_pure h₁
 |some v=>
  refine wpAny_bind (wpAny_mono h₁ (λ_ s₀ h₀ => ?_) λ_ _ h'=>h');refine wpAny_bind (wpAny_mono h₀ (λ_ s₂ h₂=>wpAny_bind (wpAny_mono h₂ (λok s₃ h₃ => ?_) λ_ _ h'=>h')) λ_ _ h'=>h');cases ok with
  |false=>exact wpAny_pure ⟨rfl,h₃⟩
  |true=>
   exact wpAny_bind (wpAny_bind (wpAny_mono h₃ (λx s₄ h₄=>wpAny_bind (wpAny_mono h₄ (λ_ s₅ h₅=>wpAny_pure (wpAny_pure ⟨rfl,h₅⟩)) λ_ _ h'=>h')) λ_ _ h'=>h'))
end
def XD(cells:List (Str×Addr)):List (Str×NameKind)->List (Str×Addr)->List (Str×Addr)
 | [],acc=>acc
 |(n,k)::r,acc=>XD cells r (if(k == .free)=true then(n,(cells.lookup n).getD 0)::acc else acc)
theorem Zaj{env:Env}:∀(names:List (Str×NameKind))(acc:List (Str×Addr)),(∀x∈names,x.2 = .free->∃c,env.cells.lookup x.1=some c) ->
 (forIn names acc λ(x:Str×NameKind) (r:List (Str×Addr))=>match x with
   |(name,kind)=>if(kind == .free)=true then(do let c <-cellOf env name;pure (ForInStep.yield ((name,c)::r)))else pure (ForInStep.yield r))=(pure (XD env.cells names acc):Sem _)
 | [],acc,_=>rfl
 |(n,k)::r,acc,h=>by
  rw [List.forIn_cons];show((if(k == .free)=true then(do let c <-cellOf env n;pure (ForInStep.yield ((n,c)::acc)))else pure (ForInStep.yield acc)) >>= _)=_
  by_cases hk:(k == .free)=true
  · obtain⟨c,hc⟩:=h (n,k) List.mem_cons_self (by simpa using hk)
    have e:cellOf env n=pure c:=by
     unfold cellOf;rw [hc]
    rw [if_pos hk,e];show(forIn r ((n,c)::acc) _:Sem _)=_;rw [Zaj r _ λx hx=>h x (List.mem_cons_of_mem _ hx)]
    conv=>rhs;unfold XD
    rw [if_pos hk,hc];rfl
  · rw [if_neg hk]
    show(forIn r acc _:Sem _)=_;rw [Zaj r _ λx hx=>h x (List.mem_cons_of_mem _ hx)]
    conv=>rhs;unfold XD
    rw [if_neg hk]
theorem Zak{scope:Scope}{env:Env}(h:∀x∈scope.names,x.2 = .free->∃c,env.cells.lookup x.1=some c):closureFor scope env=pure (XD env.cells scope.names []):=by
 have e:=Zaj (env:=env) scope.names [] h;unfold closureFor;show((forIn scope.names ([]:List (Str×Addr)) _:Sem _) >>= λcs=>pure cs)=_
 have e2:(forIn scope.names ([]:List (Str×Addr)) λ(x:Str×NameKind) (r:List (Str×Addr))=>match x with
  |(name,kind)=>if(kind == .free)=true then(do let c <-cellOf env name;pure (ForInStep.yield ((name,c)::r)))else pure (ForInStep.yield r))=(pure (XD env.cells scope.names []):Sem _):=e
 rw [e2];rfl
theorem Q7{cells:List (Str×Addr)}{x:Str}{c:Addr}:∀(names:List (Str×NameKind))(acc:List (Str×Addr)),(∀y∈names,y.2 = .free->∃c,cells.lookup y.1=some c) ->
 (∀c,acc.lookup x=some c->cells.lookup x=some c)->(XD cells names acc).lookup x=some c->cells.lookup x=some c
 | [],acc,_,ha,h=>ha c h
 |(n,k)::r,acc,hf,ha,h=>by
  unfold XD at h;refine Q7 r _ (λy hy=>hf y (List.mem_cons_of_mem _ hy)) (λc' h' => ?_) h
  by_cases hk:(k == .free)=true
  · rw [if_pos hk]at h'
    obtain⟨c0,hc0⟩:=hf (n,k) List.mem_cons_self (by simpa using hk);rw [List.lookup_cons]at h';cases hx:x == n with
    |true=>
     rw [hx]at h';have e:x=n:=eq_of_beq hx;subst e;have h'':(cells.lookup x).getD 0=c':=Option.some.inj h';have hc0':cells.lookup x=some c0:=hc0;rw [hc0']at h'' ⊢;exact congrArg some h''
    |false=>
     rw [hx]at h';exact ha c' h'
  · rw [if_neg hk]at h'
    exact ha c' h'
theorem Za2{cells:List (Str×Addr)}{x:Str}:∀(names:List (Str×NameKind))(acc:List (Str×Addr)),((x,NameKind.free)∈names\/∃c,acc.lookup x=some c)->∃c,(XD cells names acc).lookup x=some c
 | [],acc,h=>by
  rcases h with h|h
  · cases h
  · exact h
 |(n,k)::r,acc,h=>by
  unfold XD;refine Za2 r _ ?_;rcases h with h|⟨c,h⟩
  · rcases List.mem_cons.mp h with e|e
    · cases e
      refine .inr ⟨(cells.lookup x).getD 0,?_⟩;rw [if_pos (by rfl),List.lookup_cons];simp
    · exact .inl e
  · refine .inr ?_
    by_cases hk:(k == .free)=true
    · rw [if_pos hk,List.lookup_cons]
      cases hx:x == n with
      |true=>exact⟨_,rfl⟩
      |false=>exact⟨c,h⟩
    · rw [if_neg hk]
      exact⟨c,h⟩
structure CompSc(X:Cx)(scope:Scope)(tn cn:List Str)(js:List Nat):Prop where
 kind:scope.kind = .function
 nocell:∀y∈scope.names,y.2 ≠ .cell
 names:∀y∈scope.names,y.2 = .local->scope.names.lookup y.1=some .local
 free:∀y∈scope.names,y.2 = .free->X.env.kindOf y.1=some .cell\/X.env.kindOf y.1=some .free
 cap:∀(k:Nat)(x:Str),cn[k]? = some x->∃j,js[k]? = some j/\X.N[j]? = some x/\(X.env.kindOf x=some .cell\/X.env.kindOf x=some .free)/\scope.names.lookup x=some .free
 len:cn.length=js.length
def pick(σ:St)(js:List Nat):St:=js.map λj=>(σ[j]?).getD none
def blk(n:Nat)(σ:St)(js:List Nat):St:=List.replicate n none++pick σ js
section
variable{X:Cx}{pins:List (Addr×Obj)}{σ:St}{H₂:Hp}{s₂:Shared}{scope:Scope}{tn cn:List Str}{js:List Nat}
theorem ZaL{env:Env}:∀{names:List (Str×NameKind)}{x:Str},names.lookup x=some .free ->
 (names.map λ(n,k)=>if(k == NameKind.free&&env.scope.kind == .function&&env.kindOf n == some .cell)then(n,NameKind.cell)else(n,k)).lookup x=some .cell \/
 (names.map λ(n,k)=>if(k == NameKind.free&&env.scope.kind == .function&&env.kindOf n == some .cell)then(n,NameKind.cell)else(n,k)).lookup x=some .free
 | [],_,h=>by simp at h
 |(n,k0)::r,x,h=>by
  have ih := @ZaL env r x
  show List.lookup x ((if(k0 == NameKind.free&&env.scope.kind == .function&&env.kindOf n == some .cell)=true then(n,NameKind.cell)else(n,k0))::_)=_ \/
   List.lookup x ((if(k0 == NameKind.free&&env.scope.kind == .function&&env.kindOf n == some .cell)=true then(n,NameKind.cell)else(n,k0))::_)=_
  cases hx:x == n with
  |true=>
   simp only [List.lookup_cons,hx]at h;cases h
   by_cases hb:(NameKind.free == NameKind.free&&env.scope.kind == .function&&env.kindOf n == some .cell)=true
   · rw [if_pos hb];simp [List.lookup_cons,hx]
   · rw [if_neg hb];simp [List.lookup_cons,hx]
  |false=>
   simp only [List.lookup_cons,hx]at h
   by_cases hb:(k0 == NameKind.free&&env.scope.kind == .function&&env.kindOf n == some .cell)=true
   · rw [if_pos hb];simp only [List.lookup_cons,hx];exact ih h
   · rw [if_neg hb];simp only [List.lookup_cons,hx];exact ih h
end
def PTs(X:Cx)(ifs:List Expr)(t:TT):Prop:=
 ∀(pins:List (Addr×Obj))(s:Shared)(σ:St)(H:Hp)(Q:Bool->Hp->Prop),Inv X pins σ H s->t σ H Q ->
  wpAny (model X.prog X.w) X.A (forIn ifs true λc r=>if r=true then do let ok <-isTrue c X.env (eval c X.env);pure (ForInStep.yield ok)else pure (ForInStep.yield r)) (TP X pins σ Q) X.xe s
def tYes:TT:=λ_ H Q=>Q true H
theorem Xy{X:Cx}:PTs X [] tYes:=λ_ _ _ H _ I h=>wpAny_tests_nil ⟨H,I,h⟩
theorem Zg5{X:Cx}{c:Expr}{t:TT}(h:PT X c t):PTs X [c] t:=λpins s σ H Q I q=>wpAny_tests_one (h pins s σ H Q I q)
def Q8(wi:TI)(g:TG)(tt:TT)(te:TE)(n:Nat)(js:List Nat):TE:=λσ H Q=>wi σ H λJ H1=>
 ∃W:Nat->Nat->List V->Hp->Prop,(∃m,W 0 m [] H1)/\∀i m ys H,W i m ys H ->
  (J.stop i H/\∀p,H p=none->Q (.ref p) (upd H p (.lst ys))) \/
  (J.go i H/\∀x H',J.yld i H x H'->g x (blk n σ js) H' λσ2 H2=>tt σ2 H2 λb H3=>
    if b=true then te σ2 H3 λy H4=>ys.length<sizeLine/\∃m',m'<m/\W (i+1) m' (ys++[y]) H4 else ∃m',m'<m/\W (i+1) m' ys H3)
section
variable{X:Cx}{tg iter elt:Expr}{ifs:List Expr}{scope:Scope}{pos:Pos}{wi:TI}{g:TG}{tt:TT}{te:TE}{tn cn:List Str}{js:List Nat}
theorem Zd3{α:Type}{M:Model}{A:Around}{m:Sem α}{Q:α->Shared->Prop}{E:Value->Shared->Prop}{s:Shared}(h:wpAny M A m Q (λ_ _=>False) s):wpAny M A m Q E s:=wpAny_mono h (λ_ _ q=>q) λ_ _ z=>z.elim
end
end L2
namespace L2
open PySem Builtin Builtin.Str
abbrev tx(cs:List Nat):Str:=⟨cs.toArray⟩
theorem tx_inj{a b:List Nat}:tx a=tx b ↔ a=b:=by
 constructor
 · intro h
   have h2:a.toArray=b.toArray:=congrArg Str.cps h;simpa using h2
 · rintro rfl;rfl
theorem Zdb(x:Str):tx x.cps.toList=x:=by
 obtain⟨a⟩:=x;show Str.mk a.toList.toArray=Str.mk a;simp
theorem Vt(cs:List Nat):(tx cs).cps.toList=cs:=by simp [tx]
theorem YL(cs:List Nat):(tx cs).length=cs.length:=by simp [tx,Str.length]
theorem Zd4(a b:List Nat):tx a++tx b=tx (a++b):=by
 show Str.mk (a.toArray++b.toArray)=Str.mk (a++b).toArray;simp
def YE(n d:Nat):Option Int->Nat
 |none=>d
 |some v=>if v<0 then(v+(n:Int)).toNat else min v.toNat n
def cutL{α:Type}(xs:List α)(lo hi:Option Int):List α:=(xs.drop (YE xs.length 0 lo)).take (YE xs.length xs.length hi-YE xs.length 0 lo)
theorem Zgn(lo hi:Option Int)(n:Nat):strSliceIndices lo hi 1 n=(List.range (YE n n hi-YE n 0 lo)).map λk=>YE n 0 lo+k:=by
 have clip:∀v:Int,max 0 (min (if v<0 then v+(n:Int)else v) (n:Int))=(((if v<0 then(v+(n:Int)).toNat else min v.toNat n):Nat):Int):=by
  intro v
  by_cases h:v<0
  · rw [if_pos h,if_pos h];omega
  · rw [if_neg h,if_neg h];omega
 have key:∀(a b:Nat),sliceRange (a:Int) (b:Int) 1=(List.range (b-a)).map λk=>a+k:=by
  intro a b;unfold sliceRange;simp only [show(1:Int)>0 by decide,if_true]
  have e:(if(a:Int)<(b:Int)then((b:Int)-(a:Int)+1-1) / 1 else 0).toNat=b-a:=by
   split
   · rw [Int.ediv_one];omega
   · omega
  rw [e];refine List.map_congr_left λk _ => ?_
  omega
 unfold strSliceIndices;simp only [show(1:Int)>0 by decide,if_true];cases lo with
 |none=>
  cases hi with
  |none=>exact key 0 n
  |some v=>
   have:=key 0 (YE n n (some v));refine Eq.trans ?_ this;show sliceRange 0 (max 0 (min (if v<0 then v+(n:Int)else v) (n:Int))) 1=_;rw [clip v];rfl
 |some u=>
  cases hi with
  |none=>
   have:=key (YE n 0 (some u)) n;refine Eq.trans ?_ this;show sliceRange (max 0 (min (if u<0 then u+(n:Int)else u) (n:Int))) n 1=_;rw [clip u];rfl
  |some v=>
   have:=key (YE n 0 (some u)) (YE n n (some v));refine Eq.trans ?_ this;show sliceRange (max 0 (min (if u<0 then u+(n:Int)else u) (n:Int))) (max 0 (min (if v<0 then v+(n:Int)else v) (n:Int))) 1=_;rw [clip u,clip v];rfl
theorem Zdc{α:Type}(xs:List α)(l:Nat):∀k,l+k<=xs.length->((List.range k).map λj=>l+j).filterMap (λj=>xs[j]?)=(xs.drop l).take k
 |0,_=>by simp
 |k+1,h=>by
  rw [List.range_succ,List.map_append,List.filterMap_append,Zdc xs l k (by omega)];have hx:xs[l+k]? = some (xs[l+k]'(by omega)):=List.getElem?_eq_getElem (by omega);rw [List.take_add_one,List.getElem?_drop,hx];simp [hx]
theorem ZeT(n:Nat)(o:Option Int):YE n n o<=n:=by
 cases o with
 |none=>exact Nat.le_refl _
 |some v=>
  show(if v<0 then(v+(n:Int)).toNat else min v.toNat n)<=n
  split<;>omega
theorem ZfC(cs:List Nat)(lo hi:Option Int):Txt.slice (tx cs) lo hi=tx (cutL cs lo hi):=by
 have hn:(tx cs).length=cs.length:=YL cs;have hb:=ZeT cs.length hi
 have hp:((strSliceIndices lo hi 1 cs.length).filterMap λj=>cs[j]?)=cutL cs lo hi:=by
  rw [Zgn];unfold cutL
  by_cases h:YE cs.length 0 lo<=YE cs.length cs.length hi
  · exact Zdc cs _ _ (by omega)
  · have e:YE cs.length cs.length hi-YE cs.length 0 lo=0:=by omega
    rw [e];simp
 unfold Txt.slice;rw [hn]
 by_cases hc:((1:Int) == 1&&(strSliceIndices lo hi 1 cs.length).length == cs.length)=true
 · rw [if_pos hc]
   have hl:(strSliceIndices lo hi 1 cs.length).length=cs.length:=by simpa using hc
   rw [Zgn,List.length_map,List.length_range]at hl;have e0:YE cs.length 0 lo=0\/cs.length=0:=by omega
   rw [tx_inj];unfold cutL;rw [hl];rcases e0 with e0|e0
   · rw [e0];simp
   · have:cs=[]:=List.eq_nil_of_length_eq_zero e0
     subst this;simp
 · rw [if_neg hc]
   have:((strSliceIndices lo hi 1 cs.length).filterMap λj=>(tx cs).cps[j]?)=cutL cs lo hi:=by
    rw [<-hp];simp [tx]
   rw [this]
theorem cut_from{α:Type}(xs:List α)(k:Nat):cutL xs (some (k:Int)) none=xs.drop k:=by
 unfold cutL YE;simp only [show ¬((k:Int)<0) by omega,if_false,Int.toNat_natCast]
 by_cases h:k<=xs.length
 · rw [Nat.min_eq_left h,List.take_of_length_le (by simp)]
 · rw [Nat.min_eq_right (by omega),List.drop_eq_nil_of_le (Nat.le_refl _),List.drop_eq_nil_of_le (by omega)]
   simp
theorem ZfD(a b:List Nat)(i:Nat):subAt (tx a) (tx b) i=((a.drop i).take b.length == b):=by
 rw [StrLaws.subAt_eq,Vt,Vt,YL]
theorem take_prefix{a b:List Nat}:(a.take b.length == b)=b.isPrefixOf a:=by
 rw [Bool.eq_iff_iff,beq_iff_eq,List.isPrefixOf_iff_prefix];constructor
 · intro h;rw [<-h];exact List.take_prefix _ _
 · rintro⟨c,rfl⟩;simp
theorem ZeU(a b:List Nat):Txt.startswith (tx a) (tx b)=b.isPrefixOf a:=by
 unfold Txt.startswith;rw [ZfD,YL,YL,List.drop_zero,take_prefix,Nat.zero_add];cases h:b.isPrefixOf a with
 |false=>simp
 |true=>
  have:=(List.isPrefixOf_iff_prefix.mp h).length_le;simp [this]
end L2
namespace L2
open PySem Builtin Builtin.Str
def Zl3(n:Nat):List Nat:=(Nat.toDigits 10 n).map Char.toNat
def ZiZ(c:Nat):Bool:=decide (48<=c)&&decide (c<=57)
def ZjW(cs:List Nat):Nat:=cs.foldl (λacc c=>acc*10+(c-48)) 0
theorem UO(cs:List Nat)(c i:Nat):StrLaws.At (tx cs) (tx [c]) (tx cs).length i ↔ cs[i]? = some c:=by
 have:=StrLaws.subAt_one (tx cs) c i;rw [Vt]at this;exact this
theorem ZaA(cs:List Nat)(a b:Nat):strSub (tx cs) a b=tx ((cs.drop a).take (b-a)):=by
 rw [<-Zdb (strSub (tx cs) a b),StrLaws.strSub_toList,Vt]
def ZS(c:Nat):List Nat->List (List Nat)
 | []=>[[]]
 |x::xs=>if x=c then []::ZS c xs else match ZS c xs with
  | []=>[[x]]
  |p::ps=>(x::p)::ps
theorem Zb7(c:Nat):∀cs,ZS c cs≠[]
 | []=>by simp [ZS]
 |x::xs=>by
  unfold ZS
  split
  · simp
  · split<;>simp
theorem Q9{c:Nat}:∀{cs:List Nat},c∉cs->ZS c cs=[cs]
 | [],_=>rfl
 |x::xs,h=>by
  have hx:¬x=c:=λe=>h (by rw [e];exact List.mem_cons_self)
  unfold ZS;rw [if_neg hx,Q9 λm=>h (List.mem_cons_of_mem _ m)]
theorem ZaJ{c:Nat}:∀{p r:List Nat},c∉p->ZS c (p++c::r)=p::ZS c r
 | [],r,_=>by
  show ZS c (c::r)=_;rw [ZS,if_pos rfl]
 |x::p,r,h=>by
  have hx:¬x=c:=λe=>h (by rw [e];exact List.mem_cons_self)
  show ZS c (x::(p++c::r))=_;rw [ZS,if_neg hx,ZaJ λm=>h (List.mem_cons_of_mem _ m)]
theorem Zg6{cs:List Nat}{d c:Nat}(h:cs[d]? = some c):cs.drop d=c::cs.drop (d+1):=by
 have hl:d<cs.length:=(List.getElem?_eq_some_iff.mp h).1;rw [List.drop_eq_getElem_cons hl];have:=(List.getElem?_eq_some_iff.mp h).2;rw [this]
theorem ZfE{cs:List Nat}{c a d:Nat}(h:∀k,a<=k->k<d->¬cs[k]? = some c):c∉(cs.drop a).take (d-a):=by
 intro hm;obtain⟨j,hj⟩:=List.getElem?_of_mem hm
 have hlt:j<d-a:=by
  have h1:=(List.getElem?_eq_some_iff.mp hj).1;rw [List.length_take]at h1;omega
 rw [List.getElem?_take_of_lt hlt,List.getElem?_drop]at hj;exact h (a+j) (by omega) (by omega) hj
theorem ZeV{cs:List Nat}{c a:Nat}(h:∀k,a<=k->¬cs[k]? = some c):c∉cs.drop a:=by
 intro hm;obtain⟨j,hj⟩:=List.getElem?_of_mem hm;rw [List.getElem?_drop]at hj;exact h (a+j) (by omega) hj
theorem Zdd(cs:List Nat)(c:Nat):∀(cuts:List Nat)(a f:Nat),StrLaws.ChainG (tx cs) (tx [c]) (tx cs).length a cuts f->(∀k,f<=k->¬StrLaws.At (tx cs) (tx [c]) (tx cs).length k) ->
 StrLaws.partsFrom (tx cs) (tx [c]).length a cuts=(ZS c (cs.drop a)).map tx
 | [],a,f,h,hn=>by
  have e:f=a:=h;subst e;have hf:c∉cs.drop f:=ZeV λk hk=>λz=>hn k hk ((UO cs c k).mpr z)
  rw [Q9 hf];show [strSub (tx cs) f (tx cs).length]=[tx (cs.drop f)]
  rw [ZaA,YL,List.take_of_length_le (by rw [List.length_drop];exact Nat.le_refl _)]
 |d::r,a,f,h,hn=>by
  obtain⟨had,hAt,hgap,hrest⟩:=h;have hd:=(UO cs c d).mp hAt;have ih:=Zdd cs c r _ f hrest hn
  have e:cs.drop a=(cs.drop a).take (d-a)++c::cs.drop (d+1):=by
   have e1:(cs.drop a).drop (d-a)=cs.drop d:=by rw [List.drop_drop];congr 1;omega
   rw [<-Zg6 hd,<-e1,List.take_append_drop]
  have hg:c∉(cs.drop a).take (d-a):=ZfE λk h1 h2 z=>hgap k h1 h2 ((UO cs c k).mpr z)
  rw [e,ZaJ hg,List.map_cons];show strSub (tx cs) a d::StrLaws.partsFrom (tx cs) (tx [c]).length (d+(tx [c]).length) r=_;rw [ih,ZaA];rfl
theorem ZfF(cs:List Nat)(c:Nat):Txt.split (tx cs) (tx [c])=(ZS c cs).map tx:=by
 have one:c∉cs->[tx cs]=(ZS c cs).map tx:=λh=>by rw [Q9 h];rfl
 unfold Txt.split
 split
 · rename_i h
   refine one ?_;rw [Bool.or_eq_true,decide_eq_true_eq,decide_eq_true_eq]at h;rcases h with h|h
   · rw [YL]at h
     have:cs=[]:=List.eq_nil_of_length_eq_zero (by rw [YL]at h;have h':cs.length<1:=h;omega);subst this;simp
   · have:=StrLaws.kind_free (tx cs) c h
     rw [Vt]at this;exact this
 · split
   · rename_i h1 h2
     refine one λhm => ?_
     obtain⟨j,hj⟩:=List.getElem?_of_mem hm;obtain⟨f,hc,hn⟩:=StrLaws.occ_tight (tx cs) (tx [c]) (by rw [YL];exact Nat.le_refl _);rw [List.isEmpty_iff.mp h2]at hc;have e:f=0:=hc;exact hn j (by omega) ((UO cs c j).mpr hj)
   · obtain⟨f,hc,hn⟩:=StrLaws.occ_tight (tx cs) (tx [c]) (by rw [YL];exact Nat.le_refl _)
     have:=Zdd cs c _ 0 f hc hn;rw [List.drop_zero]at this;rw [<-this];exact StrLaws.zip_parts _ _ _ _
def Uf(c:Nat)(cs:List Nat):Int:=match cs.findIdx? (· == c)with
 |some i=>(i:Int)
 |none => -1
theorem Zg7(cs:List Nat)(c:Nat):Txt.find (tx cs) (tx [c])=Uf c cs:=by
 unfold Uf;rcases PyProof.Rows.find_whole (tx cs) (tx [c])with⟨e,h⟩|⟨i,e,h,hk⟩
 · rw [e]
   have hn:cs.findIdx? (· == c)=none:=by
    rw [List.findIdx?_eq_none_iff];intro x hx;simp only [beq_eq_false_iff_ne]
    rintro rfl
    obtain⟨j,hj⟩:=List.getElem?_of_mem hx;exact h j ((UO cs x j).mpr hj)
   rw [hn]
 · rw [e]
   have hi:=(UO cs c i).mp h
   have hs:cs.findIdx? (· == c)=some i:=by
    rw [List.findIdx?_eq_some_iff_getElem];have hl:i<cs.length:=(List.getElem?_eq_some_iff.mp hi).1;refine⟨hl,by simpa using(List.getElem?_eq_some_iff.mp hi).2,λj hj => ?_⟩;have hjl:j<cs.length:=by omega
    have:=hk j hj;rw [UO,List.getElem?_eq_getElem hjl]at this;simpa using this
   rw [hs]
theorem ZfG(cs:List Nat)(c:Nat):Txt.count (tx cs) (tx [c])=(cs.count c:Nat):=by
 have h:=PyProof.Rows.count_is (tx cs) c
 have e:∀l:List Nat,PyProof.Rows.cnt c l=(l.count c:Nat):=λl=>by
  induction l with
  |nil=>rfl
  |cons x xs ih=>
   rw [PyProof.Rows.cnt_cons,ih,List.count_cons]
   by_cases hx:x=c<;>simp [hx]<;>omega
 have h2:Txt.count (tx cs) (tx [c])=PyProof.Rows.cnt c (tx cs).cps.toList:=h;rw [h2,e,Vt]
def ZM(sep:List Nat):List (List Nat)->List Nat
 | []=>[]
 | [x]=>x
 |x::y::r=>x++sep++ZM sep (y::r)
theorem ZcA(sep:List Nat):∀l:List (List Nat),Str.join (tx sep) (l.map tx)=tx (ZM sep l)
 | []=>rfl
 | [x]=>rfl
 |x::y::r=>by
  show tx x++tx sep++Str.join (tx sep) ((y::r).map tx)=_;rw [ZcA sep (y::r),Zd4,Zd4];rfl
theorem Zb8:∀l:List (List Nat),ZM [] l=l.flatten
 | []=>rfl
 | [x]=>by simp [ZM]
 |x::y::r=>by
  show x++[]++ZM [] (y::r)=_;rw [Zb8 (y::r)];simp
theorem Zbe(c:Nat):∀l:List (List Nat),l≠[]->(∀p∈l,c∉p)->ZS c (ZM [c] l)=l
 | [],h,_=>absurd rfl h
 | [x],_,h=>Q9 (h x List.mem_cons_self)
 |x::y::r,_,h=>by
  show ZS c (x++[c]++ZM [c] (y::r))=_;rw [List.append_assoc];show ZS c (x++c::ZM [c] (y::r))=_;rw [ZaJ (h x List.mem_cons_self),Zbe c (y::r) (by simp) λp hp=>h p (List.mem_cons_of_mem _ hp)]
end L2
namespace L2
open PySem PySem.Spec PyProof.Rows
abbrev S(cs:List Nat):V := .str (tx cs)
theorem Zky{a b:List Nat}:S a=S b ↔ a=b:=by
 constructor
 · intro h
   exact tx_inj.mp (V.str.inj h)
 · rintro rfl;rfl
section
variable{X:Cx}{pos:Pos}
theorem ZG{x:Str}{j:Nat}(cs:List Nat)(h:x=tx cs):PE X (.Constant (.str x) j pos) (tC (S cs)):=by
 subst h;exact Zil
def Its(cs:List Nat):It:=⟨λi _=>i<cs.length,λi H v H'=>H'=H/\∃c,cs[i]? = some c/\v=S [c],λi _=>cs.length<=i⟩
theorem Qk(x:Str):strIterType x = "str_ascii_iterator" \/ strIterType x = "str_iterator" := by
 unfold strIterType
 split
 · exact .inl rfl
 · exact .inr rfl
theorem ZfH{P:Program}{w:World}{K:PySem.W.Frag}{tg:Expr}(it:Addr)(cs:List Nat)(t:Tok):Turn P w K tg (Its cs) [it] it (λi h=>h.IsStrIter it (strIterType (tx cs)) (tx cs) t i) where
 mem:=by simp
 obj:=λi h st b hb=>by
  have e:b=it:=by simpa using hb
  subst e;obtain⟨o,e,c,d⟩:=st;exact⟨o,e,λv z=>by rw [d]at z;cases z⟩
 keep:=λi h h' st k=>by
  obtain⟨o,e,r⟩:=st;exact⟨o,k it (by simp) o e,r⟩
 item:=by
  intro X hP hw hK hc i pins s σ H E I hf st hg;subst hP hw hK;obtain⟨f0,f1,f2,f3,f4,f5⟩:=hf it (by simp);have hg:i<cs.length:=hg;have hx:(tx cs).cps[i]? = some cs[i]:=by simp [tx,hg]
  have fin:∀(h':Heap),h'.IsStrIter it (strIterType (tx cs)) (tx cs) t (i+1)->Heap.SameBut it s.heap h' ->
   ∃u,some (Value.str ⟨#[cs[i]]⟩ s.toks)=some u/\wpAny (model X.prog X.w) X.A (letOwnedTupleGo tg (.ref it) u) (λ_ s2=>∃x H',Inv X pins σ H' s2/\RelV x u/\(Its cs).yld i H x H'/\s2.heap.IsStrIter it (strIterType (tx cs)) (tx cs) t (i+1)/\∀b∈[it],H' b=none) E { s with heap:=h',toks:=s.toks+1 }:=λh' st' sb=>by
   have I1:Inv X pins σ H { s with heap:=h',toks:=s.toks+1 }:=I.turned (λb o hb e=>(sb.2 b hb).trans e) f0 f1 f3 f4 f5;obtain⟨o,e,hc',d⟩:=id st';refine⟨_,rfl,J8 (s:={ s with heap:=h',toks:=s.toks+1 }) e hc' d ?_ ⟨S [cs[i]],H,I1,⟨s.toks,rfl⟩,⟨rfl,cs[i],by simp [hg],rfl⟩,st',λb hb=>(hf b hb).1⟩⟩;rcases Qk (tx cs)with z|z<;>rw [z]<;>decide
  rcases Qk (tx cs)with z|z
  · rw [z]at st
    refine wpAny_pyNext_ascii_item st hx λh' st' sb=>fin h' (by rw [z];exact st') sb
  · rw [z]at st
    refine wpAny_pyNext_wide_item st hx λh' st' sb=>fin h' (by rw [z];exact st') sb
 done:=by
  intro X hP hw hK hc i pins s σ H E I hf st hg;subst hP hw hK;obtain⟨f0,f1,f2,f3,f4,f5⟩:=hf it (by simp);have hg:cs.length<=i:=hg;have hx:(tx cs).cps[i]? = none:=by simp [tx];omega
  rcases Qk (tx cs)with z|z
  · rw [z]at st
    exact wpAny_pyNext_ascii_end (I.ok.hd hc) st hx λh' eb=>⟨rfl,I.turned (t':=s.toks) (λb o hb e=>eb b o hb e) f0 f1 f3 f4 f5⟩
  · rw [z]at st
    exact wpAny_pyNext_wide_end (I.ok.hd hc) st hx λh' eb=>⟨rfl,I.turned (t':=s.toks) (λb o hb e=>eb b o hb e) f0 f1 f3 f4 f5⟩
 self:=λ_ i _ _ _ st h=>by
  rcases Qk (tx cs)with z|z
  · rw [z]at st
    exact wpAny_pyIter_striter_ascii st h
  · rw [z]at st
    exact wpAny_pyIter_striter_wide st h
variable{tg:Expr}
def ZjX(K:PySem.W.Frag)(tl:TE):TI:=λσ H R=>tl σ H λx H1=>(∃a xs,x = .ref a/\SqL K H1 a xs/\R (Itl K a) H1)\/(∃a xs,x = .ref a/\SqT K H1 a xs/\R (Itt K a) H1)\/∃cs,x=S cs/\R (Its cs) H1
theorem Ziw{l:Expr}{tl:TE}(hl:PE X l tl):PI X tg l (ZjX X.K tl):=by
 intro pins s σ H R I h;refine thn (hl pins s σ H _ I h) λv s1 ⟨x,H1,I1,r1,q1⟩ => ?_
 rcases q1 with⟨a,xs,e,hq,q⟩|⟨a,xs,e,hq,q⟩|⟨cs,e,q⟩
 · subst e
   cases r1;obtain⟨its,rv,p,hz⟩:=I1.list hq;refine wpAny_pyIter_list p.isList ?_;refine⟨s1.heap.objs.size,[s1.heap.objs.size],_,_,H1,rfl,I1.kept (t':=s1.toks) λb o e=>Heap.get?_push_of_some _ e,ZeJ a _,⟨_,Heap.get?_push_size _ rfl,rfl,rfl⟩,λb hb => ?_,q⟩;have e:b=s1.heap.objs.size:=by simpa using hb
   subst e;exact I1.fpOk (Nat.le_refl _) (I1.hok.fresh (Nat.le_refl _))
 · have hpi:=Zin (X:=X) (tg:=tg) (l:=l) (tl:=λ_ H Q=>Q (.ref a) H)
   subst e;cases r1;obtain⟨its,rv,p,hz⟩:=I1.tuple hq;refine wpAny_pyIter_tuple (show s1.heap.IsTuple a its.toArray from p) ?_;refine⟨s1.heap.objs.size,[s1.heap.objs.size],_,_,H1,rfl,I1.kept (t':=s1.toks) λb o e=>Heap.get?_push_of_some _ e,Zbq a _,⟨_,Heap.get?_push_size _ rfl,rfl,rfl⟩,λb hb => ?_,q⟩;have e:b=s1.heap.objs.size:=by simpa using hb
   subst e;exact I1.fpOk (Nat.le_refl _) (I1.hok.fresh (Nat.le_refl _))
 · subst e
   obtain⟨t,rfl⟩:=r1;refine wpAny_pyIter_strU ?_;refine⟨s1.heap.objs.size,[s1.heap.objs.size],_,_,H1,rfl,I1.kept (t':=s1.toks) λb o e=>Heap.get?_push_of_some _ e,ZfH _ cs t,⟨_,Heap.get?_push_size _ rfl,rfl,rfl⟩,λb hb => ?_,q⟩;have e:b=s1.heap.objs.size:=by simpa using hb
   subst e;exact I1.fpOk (Nat.le_refl _) (I1.hok.fresh (Nat.le_refl _))
def rAddS:R2:=λx y H Q=>∃a b,x=S a/\y=S b/\a.length+b.length<=sizeLine/\Q (S (a++b)) H
theorem op_addS:OpR X (binaryOp .Add) rAddS:=by
 intro pins s σ H x y v u Q I rx ry h;obtain⟨a,b,rfl,rfl,hz,q⟩:=h;refine ZdF pins s σ H _ _ v u Q I rx ry ⟨tx a,tx b,rfl,rfl,by rw [YL,YL];exact hz,?_⟩;rw [Zd4];exact q
def rAddX:R2:=λx y H Q=>rI0 (λi j => .int (i+j)) x y H Q\/rAddS x y H Q\/rCat x y H Q
theorem X7:OpR X (binaryOp .Add) rAddX:=op_add.or (op_addS.or Ziv)
def Zl4(neg:Bool):R2:=λx y H Q=>∃c b,x=S [c]/\y=S b/\Q (.bl (neg != decide (c∈b))) H
theorem op_inS:OpR X (compareOp .In) (Zl4 false):=by
 intro pins s σ H x y v u Q I rx ry h;obtain⟨c,b,rfl,rfl,q⟩:=h;refine ZeK pins s σ H _ _ v u Q I rx ry ⟨tx [c],tx b,rfl,rfl,?_⟩;have e:=StrLaws.found_one (tx b) c;rw [Vt]at e;rw [show tx [c]=(⟨#[c]⟩:Str)from rfl,e];simpa using q
def Zi0(K:PySem.W.Frag)(neg:Bool):R2:=λx y H Q=>Zl4 neg x y H Q\/rIn K neg x y H Q
theorem Zix:OpR X (compareOp .In) (Zi0 X.K false):=op_inS.or ZeQ
def rIxSt:R2:=λx y H Q=>∃a i c,x=S a/\y = .int i/\a.length<=sizeLine/\atI a i=some c/\Q (S [c]) H
theorem Zme:IxR X rIxSt:=by
 intro value slice pins s σ H x y v u Q I rx ry h hs;obtain⟨a,i,c,rfl,rfl,hz,he,q⟩:=h;exact Zis value slice pins s σ H _ _ v u Q I rx ry ⟨tx a,i,c,rfl,rfl,by rw [YL];exact hz,by rw [Vt];exact he,q⟩ hs
def ZjY(K:PySem.W.Frag):R2:=λx y H Q=>Zl0 K x y H Q\/Zl1 K x y H Q\/rIxSt x y H Q
theorem Zmf:IxR X (ZjY X.K):=ix_list.or (ix_tup.or Zme)
def rSlS:V->Option Int->Option Int->Hp->VK->Prop:=λx lo hi H Q=>∃a,x=S a/\a.length<=sizeLine/\Q (S (cutL a lo hi)) H
theorem sl_S:SlR X rSlS:=by
 intro pins s σ H x v vl vu lo hi sl Q I rx hs pl pu h;obtain⟨a,rfl,hz,q⟩:=h;obtain⟨t,rfl⟩:=rx;refine⟨"str",_,F.slot_str_getitem.lookup,typeIs_str _ _ _,?_⟩;have fin:∀t' k,EP X pins σ Q (.str (Txt.slice (tx a) lo hi) t') { s with toks:=k }:=λt' k=>⟨S (cutL a lo hi),H,I.tok _,⟨t',by rw [ZfC]⟩,q⟩
 have hle:(Txt.slice (tx a) lo hi).length<=sizeLine:=Nat.le_trans (Txt.slice_le _ _ _) (by rw [YL];exact hz);cases pl with
 |none=>
  cases pu with
  |none=>exact wpAny_getItem_str_slice (l:=none) (u:=none) (st:=none) hs rfl (post_val_or_str ⟨hle,fin⟩)
  |int j uj=>exact wpAny_getItem_str_slice (l:=none) (u:=some (j,uj)) (st:=none) hs rfl (post_val_or_str ⟨hle,fin⟩)
 |int i ui=>
  cases pu with
  |none=>exact wpAny_getItem_str_slice (l:=some (i,ui)) (u:=none) (st:=none) hs rfl (post_val_or_str ⟨hle,fin⟩)
  |int j uj=>exact wpAny_getItem_str_slice (l:=some (i,ui)) (u:=some (j,uj)) (st:=none) hs rfl (post_val_or_str ⟨hle,fin⟩)
def Zi1(K:PySem.W.Frag):V->Option Int->Option Int->Hp->VK->Prop:=λx lo hi H Q=>rSlS x lo hi H Q\/Zl2 K x lo hi H Q\/ZlZ K x lo hi H Q
theorem Zmg:SlR X (Zi1 X.K):=sl_S.or (sl_list.or Zir)
def ZgO(K:PySem.W.Frag):List V->Hp->VK->Prop:=λxs H Q=>(∃a,xs=[S a]/\a.length<=sizeLine/\Q (.int a.length) H)\/∃p ys,xs=[.ref p]/\(SqL K H p ys\/SqT K H p ys)/\Q (.int ys.length) H
theorem ZeW:Y9 X (.builtin "len") (ZgO X.K):=by
 intro pins s σ H xs us Q I rs q;rcases q with⟨a,rfl,hz,q⟩|q
 · exact Zco pins s σ H _ us Q I rs ⟨tx a,rfl,by rw [YL];exact hz,by rw [YL];exact q⟩
 · exact Zcn pins s σ H xs us Q I rs q
def rIntX:List V->Hp->VK->Prop:=λxs H Q=>(∃a,xs=[S a]/\a.length<=640/\a≠[]/\a.all ZiZ=true/\Q (.int (ZjW a:Nat)) H)\/(∃k,xs=[.bl k]/\Q (.int (if k then 1 else 0)) H)
theorem ZeX:Y9 X (.type "int") rIntX:=by
 intro pins s σ H xs us Q I rs h;rcases h with⟨a,rfl,hl,hne,hd,q⟩|h
 · obtain⟨u,rfl,t,rfl⟩:=Xf rs
   have hd':PySem.NumText.AllDigits (tx a).cps.toList:=by
    rw [Vt];intro c hc;have:=List.all_eq_true.mp hd c hc;unfold ZiZ at this;rw [Bool.and_eq_true,decide_eq_true_eq,decide_eq_true_eq]at this;exact this
   have e:=PySem.intText_digits hd' (by rw [Vt];exact hne) (by rw [YL];omega);rw [Vt]at e;exact PySem.W.KIN.call_text e (by rw [YL];exact hl) ⟨.int (ZjW a:Nat),H,I.tok _,⟨_,rfl⟩,q⟩
 · exact ZeM pins s σ H xs us Q I rs (.inr h)
theorem Zg8(bs:List Bool):∀(its:List Value),Vals (bs.map V.bl) its->its=bs.map Value.bool:=by
 induction bs with
 |nil=>intro its r;cases r;rfl
 |cons b bs ih=>
  intro its r;cases r with
  |cons r1 r2=>
   rw [ih _ r2];cases r1;rfl
theorem ZeY(bs:List Bool):((List.range bs.length).all λi=>bs.getD i false)=bs.all id:=by
 rw [Bool.eq_iff_iff,List.all_eq_true,List.all_eq_true];constructor
 · intro h b hb
   obtain⟨i,hi⟩:=List.getElem?_of_mem hb;have hl:i<bs.length:=(List.getElem?_eq_some_iff.mp hi).1;have:=h i (List.mem_range.mpr hl);rw [List.getD_eq_getElem?_getD,hi]at this;exact this
 · intro h i hi
   have hl:=List.mem_range.mp hi;have:=h bs[i] (List.getElem_mem hl);rw [List.getD_eq_getElem?_getD,List.getElem?_eq_getElem hl];exact this
theorem ZeZ(bs:List Bool):((List.range bs.length).any λi=>bs.getD i false)=bs.any id:=by
 rw [Bool.eq_iff_iff,List.any_eq_true,List.any_eq_true];constructor
 · rintro⟨i,hi,h⟩
   have hl:=List.mem_range.mp hi;rw [List.getD_eq_getElem?_getD,List.getElem?_eq_getElem hl]at h;exact⟨bs[i],List.getElem_mem hl,h⟩
 · rintro⟨b,hb,h⟩
   obtain⟨i,hi⟩:=List.getElem?_of_mem hb;have hl:i<bs.length:=(List.getElem?_eq_some_iff.mp hi).1;refine⟨i,List.mem_range.mpr hl,?_⟩;rw [List.getD_eq_getElem?_getD,hi];exact h
def Ja(K:PySem.W.Frag)(f:List Bool->Bool):List V->Hp->VK->Prop:=λxs H Q=>∃p bs,xs=[.ref p]/\SqL K H p (bs.map V.bl)/\Q (.bl (f bs)) H
theorem Zbs {pins:List (Addr×Obj)} {σ:St} {H:Hp} {s:Shared} {p:Addr} {bs:List Bool} {Q:Value->Shared->Prop} {E:Value->Shared->Prop} {f:(Nat->Bool)->Bool} (hc:X.calm=true) (I:Inv X pins σ H s) (hq:SqL X.K H p (bs.map V.bl))
 (q:∀h' tk,(∀b o,s.heap.get? b=some o->h'.get? b=some o)->Q (.bool (f λi=>bs.getD i false)) { s with heap:=h',toks:=tk }) :
 wpAny (model X.prog X.w) X.A.in1 (pyIter (.ref p)) (λit s₂=>∃I fp wr n P St tr,it = .ref I/\Walks X.prog X.w X.A.in1 I fp wr n P St/\St 0 s₂.heap/\TruthOf X.prog X.w X.A.in1 P tr /\
  n=bs.length/\tr=(λi=>bs.getD i false)/\∀h' tk,(∀b o,b∉wr->s₂.heap.get? b=some o->h'.get? b=some o)->Q (.bool (f tr)) { s₂ with heap:=h',toks:=tk }) E s:=by
 obtain⟨its,rv,pl,hz⟩:=I.list hq;have e:=Zg8 bs its rv;subst e;refine wpAny_pyIter_list pl.isList ?_;have hlt:p<s.heap.objs.size:=pl.lt;have hh:X.A.in1.handled=none:=I.ok.hd hc;refine⟨s.heap.objs.size,_,_,_,_,_,λi=>bs.getD i false,rfl,Walks.list hh _ p (Nat.ne_of_lt hlt) (bs.map Value.bool).toArray,⟨⟨_,Heap.get?_push_size _ rfl,rfl,rfl⟩,(pl.keeps λb o e=>Heap.get?_push_of_some _ e).isList⟩,?_,by simp,rfl,λh' tk k => ?_⟩
 · intro i v s' Q' E' hv hq'
   have:v=Value.bool (bs.getD i false):=by
    have hv':(bs.map Value.bool)[i]? = some v:=by simpa using hv
    rw [List.getElem?_map]at hv';rw [List.getD_eq_getElem?_getD];cases e:bs[i]? with
    |none=>rw [e]at hv';cases hv'
    |some b=>rw [e]at hv';exact(Option.some.inj hv').symm
   subst this;exact wpAny_truthy_bool hq'
 · refine q h' tk λb o e=>k b o (λz => ?_) (Heap.get?_push_of_some _ e)
   have h1:=Heap.lt_size e;have h2:b=s.heap.objs.size:=by simpa using z
   rw [h2]at h1;exact Nat.lt_irrefl _ h1
theorem Ze0(hc:X.calm=true):Y9 X (.builtin "all") (Ja X.K λbs=>bs.all id):=by
 intro pins s σ H xs us Q I rs h;obtain⟨p,bs,rfl,hq,q⟩:=h;obtain⟨u,rfl,rx⟩:=Xf rs;cases rx;have z:=Zbs (f:=λtr=>(List.range bs.length).all tr) (Q:=EP X pins σ Q) (E:=X.xe) hc I hq λh' tk k=>⟨.bl _,H,I.kept k,rfl,by rw [ZeY];exact q⟩
 refine call_all_walk (wpAny_mono z (λit s₂ z2 => ?_) λ_ _ z=>z);obtain⟨I',fp,wr,n,P,St,tr,e1,W,st,ht,en,et,hq'⟩:=z2;exact⟨I',fp,wr,n,P,St,tr,e1,W,st,ht,λh' tk k=>by rw [en];exact hq' h' tk k⟩
theorem Ze1(hc:X.calm=true):Y9 X (.builtin "any") (Ja X.K λbs=>bs.any id):=by
 intro pins s σ H xs us Q I rs h;obtain⟨p,bs,rfl,hq,q⟩:=h;obtain⟨u,rfl,rx⟩:=Xf rs;cases rx;have z:=Zbs (f:=λtr=>(List.range bs.length).any tr) (Q:=EP X pins σ Q) (E:=X.xe) hc I hq λh' tk k=>⟨.bl _,H,I.kept k,rfl,by rw [ZeZ];exact q⟩
 refine call_any_walk (wpAny_mono z (λit s₂ z2 => ?_) λ_ _ z=>z);obtain⟨I',fp,wr,n,P,St,tr,e1,W,st,ht,en,et,hq'⟩:=z2;exact⟨I',fp,wr,n,P,St,tr,e1,W,st,ht,λh' tk k=>by rw [en];exact hq' h' tk k⟩
theorem ZfI:Y9 X (.builtin "isinstance") (λxs H Q=>∃x c cv t b,xs=[x,c]/\(∀v,RelV c v->v=cv)/\TyOf X.K H x t/\kitOne X.K t cv=some b/\Q (.bl b) H):=by
 intro pins s σ H xs us Q I rs h;obtain⟨x,c,cv,t,b,rfl,hc,ty,e,q⟩:=h;obtain⟨u,w',rfl,rx,rc⟩:=ZgM rs;have ec:=hc _ rc;subst ec;exact ZeP I rx ty e λtk=>⟨.bl b,H,I.tok tk,rfl,q⟩
theorem ZbU:MtR X "str.startswith" (λx xs H Q=>∃a b,x=S a/\xs=[S b]/\Q (.bl (b.isPrefixOf a)) H):=by
 intro pins s σ H x xs v us Q I rx rs h;obtain⟨a,b,rfl,rfl,q⟩:=h;obtain⟨t,rfl⟩:=rx;obtain⟨u,rfl,t',rfl⟩:=Xf rs;refine SC.startswith ?_;rw [ZeU];exact⟨.bl _,H,I,rfl,q⟩
end
section
variable{X:Cx}{K:PySem.W.Frag}{pos:Pos}{tg:Expr}
theorem Zfn(hK:X.K=K:=by rfl):OpR X (compareOp .In) (Zi0 K false):=hK▸Zix
theorem ZC(hK:X.K=K:=by rfl):IxR X (ZjY K):=hK▸Zmf
theorem UP(hK:X.K=K:=by rfl):SlR X (Zi1 K):=hK▸Zmg
theorem Yu(hK:X.K=K:=by rfl):Y9 X (.builtin "len") (ZgO K):=hK▸ZeW
theorem Jb(hc:X.calm=true:=by rfl)(hK:X.K=K:=by rfl):Y9 X (.builtin "all") (Ja K λbs=>bs.all id):=hK▸Ze0 hc
theorem Zkz(hc:X.calm=true:=by rfl)(hK:X.K=K:=by rfl):Y9 X (.builtin "any") (Ja K λbs=>bs.any id):=hK▸Ze1 hc
def Zmh(K:PySem.W.Frag):List V->Hp->VK->Prop:=λxs H Q=>∃x c cv t b,xs=[x,c]/\(∀v,RelV c v->v=cv)/\TyOf K H x t/\kitOne K t cv=some b/\Q (.bl b) H
theorem XE{l:Expr}{tl:TE}(hl:PE X l tl)(hK:X.K=K:=by rfl):PI X tg l (ZjX K tl):=hK▸Ziw hl
theorem YC{e:Expr}{ta:TE}{f:Str}(he:PE X e ta)(hb:attributeBase e f X.env (eval e X.env)=eval e X.env:=by rfl)(hK:X.K=K:=by rfl):PE X (.Attribute e f pos) (ZjV K ta f):=hK▸Zio he hb
def Zgo(K:PySem.W.Frag):List V->Hp->VK->Prop:=λxs H Q=>∃p ys,xs=[.ref p]/\((SqL K H p ys/\∀l,H l=none->Q (.ref l) (upd H l (.tup ys)))\/(SqT K H p ys/\Q (.ref p) H))
def Ziy(K:PySem.W.Frag):List V->Hp->VK->Prop:=λxs H Q=>∃p ys,xs=[.ref p]/\(SqL K H p ys\/SqT K H p ys)/\∀l,H l=none->Q (.ref l) (upd H l (.lst ys))
theorem ZbG(hK:X.K=K:=by rfl):Y9 X (.type "tuple") (Zgo K):=hK▸ZbT
theorem XI {o e:Expr} {es:List Expr} {to:TE} {t:TA} {name:Str} {apos cpos:Pos} {T id:String} {r:V->List V->Hp->VK->Prop} (pa:PlainAttrs T) (slot:Slot T name id) (hty:typeOf (.builtin id)=pure (.type "method_descriptor")) (hm:MtR X id r) (ho:PE X o to) (ha:PA X (e::es) t)
 (hbase:attributeBase o name X.env (eval o X.env)=eval o X.env:=by rfl)
 (hfew:((backTo cpos (starEach (e::es) X.env)).all (λx => !x.1)&&(backToKw cpos (keywordEach [] X.env)).all (λx=>x.1.isSome)
   && decide ((e::es).length+([]:List Keyword).length+(if([]:List Keyword).isEmpty then 0 else 1)<30))=true:=by rfl)
 (hline:(apos.endLine == cpos.line)=true:=by rfl) (hs:starEach (e::es) X.env=(false,eval e X.env)::starEach es X.env:=by rfl) (hplain:(backTo cpos (starEach es X.env)).any (·.1)=false:=by rfl) (hK:X.K=K:=by rfl) :
 PE X (.Call (.Attribute o name apos) (e::es) [] cpos) (tBM K T r to t):=hK▸Zkx pa slot hty hm ho ha hbase hfew hline hs hplain
theorem ZhU {es:List Expr} {k:Nat} {t:TGs} {n:Nat} (h:PGs X es t) (hc:X.calm=true:=by rfl)
 (hn:(assignEach es X.env).length=n:=by rfl) (hst:(assignEach es X.env).findIdx? (·.1)=none:=by rfl) (hK:X.K=K:=by rfl):PG X (.Tuple es k pos) (ZjS K n t):=hK▸Zim hc h hn hst
end
end L2
namespace L2
open PySem PySem.Spec PyProof.Rows
theorem ZfJ{H:Hp}{q:Addr}{o:HO}(h:H q=none):Same H (upd H q o):=λb u e=>by
 rw [Zx (Yy e h)];exact e
structure Walk(J:It)(xs:List V)(H:Hp):Prop where
 go:∀i,i<xs.length->J.go i H
 yld:∀(i:Nat)v H',i<xs.length->J.yld i H v H'->H'=H/\xs[i]? = some v
 stop:∀i,xs.length<=i->J.stop i H
end L2
namespace L2
open PySem PySem.Spec PyProof.Rows
section
variable{X:Cx}{tg:Expr}
end
end L2
namespace L2
open PySem PySem.Spec PyProof.Rows
def ZjZ(n0:Nat)(cs:List Nat):It:=⟨λi _=>i<cs.length,λi H v H'=>∃c p,cs[i]? = some c/\H p=none/\v = .ref p/\H'=upd H p (.tup [.int ((n0+i:Nat):Int),S [c]]),λi _=>cs.length<=i⟩
theorem Zb9{prog:Program}{w:World}{A:Around}(hh:A.handled=none)(it:Addr)(cs:List Nat)(t:Tok)(n0:Nat) :
 Draws prog w A it [it] (n0+cs.length) (λi v=>∃j c u,i=n0+j/\cs[j]? = some c/\v = .str ⟨#[c]⟩ u) (λi h=>∃j,i=n0+j/\h.IsStrIter it (strIterType (tx cs)) (tx cs) t j) where
 live:=λi h ⟨j,_,o,ho,_⟩=>⟨o,ho⟩
 frame:=λi h h' ⟨j,e,o,ho,r⟩ hk=>⟨j,e,o,hk it (by simp) o ho,r⟩
 item:=λi s Q E hi st hQ=>by
  obtain⟨j,rfl,st⟩:=st;have hj:j<cs.length:=by omega
  have hx:(tx cs).cps[j]? = some cs[j]:=by simp [tx,hj]
  rcases Qk (tx cs)with z|z
  · rw [z]at st
    refine wpAny_nextOf_ascii_item st hx λh' st' sb => ?_
    exact hQ _ h' (s.toks+1) ⟨j,_,_,rfl,by simp [hj],rfl⟩ ⟨j+1,by omega,by rw [z];exact st'⟩ sb
  · rw [z]at st
    refine wpAny_nextOf_wide_item st hx λh' st' sb => ?_
    exact hQ _ h' (s.toks+1) ⟨j,_,_,rfl,by simp [hj],rfl⟩ ⟨j+1,by omega,by rw [z];exact st'⟩ sb
 done:=λs Q E st hE=>by
  obtain⟨j,e,st⟩:=st;have hj:j=cs.length:=by omega
  subst hj;have hx:(tx cs).cps[cs.length]? = none:=by simp [tx]
  rcases Qk (tx cs)with z|z
  · rw [z]at st
    exact wpAny_nextOf_ascii_end hh st hx hE
  · rw [z]at st
    exact wpAny_nextOf_wide_end hh st hx hE
theorem ZdN{P:Program}{w:World}{K:PySem.W.Frag}{elts:List Expr}{x1:Nat}{tpos:Pos}(e it:Addr)(hne:e≠it)(n0:Nat)(cs:List Nat)(t:Tok) :
 Turn P w K (.Tuple elts x1 tpos) (ZjZ n0 cs) [e,it] e (λi h=>(i<=cs.length/\∃old,IsEnum h e it ((n0+i:Nat):Int) old)/\h.IsStrIter it (strIterType (tx cs)) (tx cs) t i) where
 mem:=by simp
 obj:=λi h st b hb=>by
  obtain⟨⟨_,old,he⟩,o,ho,hc,hd⟩:=st;simp at hb;rcases hb with rfl|rfl
  · exact ⟨_, he, fun v z => by
     have z':Data.fields _=Data.cell v:=z;cases z'⟩
  · exact⟨o,ho,λv z=>by rw [hd]at z;cases z⟩
 keep:=λi h h' st k=>by
  obtain⟨⟨hi,old,he⟩,o,ho,r⟩:=st;exact⟨⟨hi,old,k e (by simp) _ he⟩,o,k it (by simp) o ho,r⟩
 item:=by
  intro X hP hw hK hc i pins s σ H E I hf st hg;subst hP hw hK;obtain⟨⟨_,old,he⟩,st⟩:=st;have hg:i<cs.length:=hg;have f:=hf e (by simp);have g:=hf it (by simp);obtain⟨e0,e1,e2,e3,e4,e5⟩:=f;obtain⟨f0,f1,f2,f3,f4,f5⟩:=g;have D:=Zb9 (prog:=X.prog) (w:=X.w) (A:=X.A.in1) (I.ok.hd hc) it cs t n0;refine wpAny_pyNext_enum_itemD D he ⟨i,rfl,st⟩ (by omega) hne (by simp [hne]) λx h' tk hP ho st' hT hsz hk => ?_
  obtain⟨j,c,u,ej,hcx,rfl⟩:=hP;have ej':j=i:=by omega
  subst ej';refine⟨_,rfl,wpAny_letOwnedTupleGo_enum ho λh2 he2 hs2 => ?_⟩;have hs2:Heap.SameBut e h' h2:=hs2;have hTl:e<s.heap.objs.size:=Heap.lt_size he;obtain⟨j',ej2,st''⟩:=st';have ej3:j'=j+1:=by omega
  subst ej3;have hT2:h2.get? s.heap.objs.size=some { cls := .type "tuple",data := .seq #[.int ((n0+j:Nat):Int) tk,.str ⟨#[c]⟩ u] }:=(hs2.2 _ (Nat.ne_of_gt hTl)).trans hT;have k2:∀b o,b≠e->b≠it->s.heap.get? b=some o->h2.get? b=some o:=λb o hb hb' q=>(hs2.2 b hb).trans (hk b o hb hb' q)
  have hTn:H s.heap.objs.size=none:=I.hok.fresh (Nat.le_refl _);have neT:∀b o,s.heap.get? b=some o->b≠s.heap.objs.size:=λb o q=>Nat.ne_of_lt (Heap.lt_size q)
  have I2:Inv X pins σ (upd H s.heap.objs.size (.tup [.int ((n0+j:Nat):Int),S [c]])) { s with heap:=h2,toks:=tk+1 }:=by
   refine I.step (g':=s.gens) (d':=s.drawn) (ch:=[e,it]) (λb hb => ?_) (λb o _ _ hcb q _ => ?_) (λb o _ _ hcb q _ => ?_) (λb o hcb q n => ?_) (λb o hcb q => ?_) (λb xs q => ?_) (λb o v q => ?_) (λb ps q => ?_) (λm hm => ?_) (λb o q => ?_) I.bare
   · simp at hb
     rcases hb with rfl|rfl
     · exact⟨e3,e1,e4,e5⟩
     · exact⟨f3,f1,f4,f5⟩
   · simp at hcb
     exact k2 b o hcb.1 hcb.2 q
   · simp at hcb
     exact⟨o.slots,k2 b o hcb.1 hcb.2 q⟩
   · rw [Zx (neT b o q)]
     exact n
   · simp at hcb
     exact⟨o,k2 b o hcb.1 hcb.2 q⟩
   · rw [Zx (Yy q hTn)]
     exact q
   · rw [Zx (Yy q hTn)]
     exact q
   · exact⟨#[],by rw [Zx (Yy q hTn),q];simp⟩
   · obtain⟨o,es,ep,q,r⟩:=hm
     exact⟨o,es,ep,k2 _ o (Ne.symm e1) (Ne.symm f1) q,r⟩
   · by_cases hb:b=s.heap.objs.size
     · subst hb
       rw [Yo]at q;cases q;refine⟨by show 2<=sizeLine;decide,[.int ((n0+j:Nat):Int) tk,.str ⟨#[c]⟩ u],.cons ⟨_,rfl⟩ (.cons ⟨_,rfl⟩ .nil),?_⟩;exact⟨_,hT2,rfl,⟨_,rfl⟩,rfl⟩
     · rw [Zx hb]at q
       have nn:∀(b:Addr)(o:HO),H b=some o->b≠e/\b≠it:=λb o q=>⟨λz=>(by rw [z,e0]at q;cases q),λz=>(by rw [z,f0]at q;cases q)⟩
       refine(I.hok b o q).stay (λd v hd q' => ?_) (λd q'=>by rw [Zx (Yy q' hTn)];exact q') λd xs q'=>by rw [Zx (Yy q' hTn)];exact q'
       rcases hd with rfl|hd
       · exact k2 d v (nn d o q).1 (nn d o q).2 q'
       · exact k2 d v (nn d _ hd).1 (nn d _ hd).2 q'
  have he3:IsEnum h2 e it ((n0+(j+1):Nat):Int) (.str ⟨#[c]⟩ u):=by
   have:((n0+(j+1):Nat):Int)=((n0+j:Nat):Int)+1:=by push_cast;omega
   rw [this];exact he2
  refine⟨.ref s.heap.objs.size,_,I2,rfl,⟨c,s.heap.objs.size,hcx,hTn,rfl,rfl⟩,⟨⟨hg,_,he3⟩,?_⟩,λb hb => ?_⟩
  · obtain⟨o,ho',r⟩:=st''
    exact⟨o,(hs2.2 it (Ne.symm hne)).trans ho',r⟩
  · simp at hb
    rcases hb with rfl|rfl
    · rw [Zx (Nat.ne_of_lt hTl)];exact e0
    · obtain⟨o,ho',_⟩:=st
      rw [Zx (neT _ o ho')];exact f0
 done:=by
  intro X hP hw hK hc i pins s σ H E I hf st hg;subst hP hw hK;obtain⟨⟨hi,old,he⟩,st⟩:=st;have hg:cs.length<=i:=hg;have ei:i=cs.length:=by omega
  subst ei;obtain⟨f0,f1,f2,f3,f4,f5⟩:=hf it (by simp);have D:=Zb9 (prog:=X.prog) (w:=X.w) (A:=X.A.in1) (I.ok.hd hc) it cs t n0;exact wpAny_pyNext_enum_endD D he ⟨cs.length,rfl,st⟩ λh' eb=>⟨rfl,I.turned (t':=s.toks) (λb o hb q=>eb b o hb q) f0 f1 f3 f4 f5⟩
 self:=λ_ _ _ _ _ st h=>by
  obtain⟨⟨_,old,he⟩,_⟩:=st;exact wpAny_pyIter_enum he h
section
variable{X:Cx}{elts:List Expr}{x1:Nat}{tpos:Pos}
end
end L2
namespace L2
open PySem PySem.Spec PyProof.Rows
abbrev stl(o:Obj):HO := .frz o (.own 0)
structure Lm where
 qual:Str
 params:Arguments
 body:PySem.Expr
 scope:Scope
 N:List Str
 ps:List Str
 fr:List Str
structure LamAt(H:Hp)(p:Addr)(m:Lm)(cl:List (Str×Addr))(vc:List V):Prop where
 fn:∃pm c ct,H p=some (.frz (PySem.W.kla_obj "<lambda>" m.qual m.params m.body m.scope cl pm c ct) (.fnc c m.qual))
 inj:∀x y c,cl.lookup x=some c->cl.lookup y=some c->x=y
 cell:∀q∈cl,∃o v,H q.2=some (stl o)/\o.data = .cell v
 get:∀(i:Nat)(x:Str),m.fr[i]? = some x->∃c u v o,cl.lookup x=some c/\vc[i]? = some v/\RelV v u/\H c=some (stl o)/\o.data = .cell (some u)
 len:vc.length=m.fr.length
variable{H H':Hp}{p:Addr}{m:Lm}{cl:List (Str×Addr)}{vc:List V}
theorem LamAt.ext(L:LamAt H p m cl vc)(h1:∀o,H p=some o->H' p=some o)(h2:∀q∈cl,∀o,H q.2=some o->H' q.2=some o):LamAt H' p m cl vc:=
 ⟨let⟨pm,c,ct,e⟩:=L.fn;⟨pm,c,ct,h1 _ e⟩,L.inj,λq hq=>let⟨o,v,e,d⟩:=L.cell q hq;⟨o,v,h2 q hq _ e,d⟩,
   λi x e=>let⟨c,u,v,o,e1,e2,e3,e4,e5⟩:=L.get i x e;⟨c,u,v,o,e1,e2,e3,h2 (x,c) (PySem.mem_of_lookup e1) _ e4,e5⟩,L.len⟩
theorem LamAt.there(L:LamAt H p m cl vc):H p≠none:=by
 obtain⟨pm,c,ct,e⟩:=L.fn;rw [e];exact λz=>by cases z
theorem LamAt.thereC(L:LamAt H p m cl vc)(q:Str×Addr)(hq:q∈cl):H q.2≠none:=by
 obtain⟨o,v,e,_⟩:=L.cell q hq;rw [e];exact λz=>by cases z
end L2
namespace DL
open PySem PySem.Spec L2
inductive D where
 |non
 |bl (b:Bool)
 |int (i:Int)
 |str (cs:List Nat)
 |lst (xs:List D)
 |tup (xs:List D)
 |obj (c:String) (ks:List String) (xs:List D)
 |dct (ks:List Key) (xs:List D)
 |dtt (ks:List (List Key)) (xs:List D)
 |clo (k:Nat) (xs:List D)
def KL(K:PySem.W.Frag)(a:Addr)(vs:List V):Prop:=∃(o:Obj) (its:Array Value) (n:Nat),K.lookup a=some o/\o.cls = .type "list" /\ o.dict=none/\o.data = .seq its n/\its.size<=sizeLine/\Vals vs its.toList
structure Kn where
 c:String->Addr
 K:PySem.W.Frag
 lm:Nat->Lm
def ZY:D->Bool
 | .non=>true
 | .bl _=>true
 | .int _=>true
 | .str _=>true
 |_=>false
mutual
def Rep(cA:Kn)(av:Addr->Prop)(H:Hp):D->V->Prop
 | .non,v=>v = .non
 | .bl b,v=>v = .bl b
 | .int i,v=>v = .int i
 | .str cs,v=>v=S cs
 | .lst xs,v=>∃a vs,v = .ref a/\(av a->KL cA.K a vs)/\SqL cA.K H a vs/\RepL cA av H xs vs
 | .tup xs,v=>∃a vs,v = .ref a/\¬av a/\H a=some (.tup vs)/\RepL cA av H xs vs
 | .obj c ks xs,v=>∃a dx vs,v = .ref a/\¬av a/\H a=some (.ins (cA.c c) dx ((ks.map Str.ofString).zip vs))/\ks.length=xs.length/\RepL cA av H xs vs
 | .dct ks xs,v=>∃a vs,v = .ref a/\¬av a/\H a=some (.dK (ks.zip vs))/\ks.length=xs.length/\RepL cA av H xs vs
 | .dtt ks xs,v=>∃a vs,v = .ref a/\¬av a/\H a=some (.dT (ks.zip vs))/\ks.length=xs.length/\RepL cA av H xs vs
 | .clo k xs,v=>∃p cl vs,v = .ref p/\¬av p/\(∀q∈cl,¬av q.2)/\LamAt H p (cA.lm k) cl vs/\RepL cA av H xs vs
def RepL(cA:Kn)(av:Addr->Prop)(H:Hp):List D->List V->Prop
 | [],vs=>vs=[]
 |x::xs,vs=>∃v r,vs=v::r/\Rep cA av H x v/\RepL cA av H xs r
end
section
variable{cA:Kn}{G:Cn}{av av':Addr->Prop}{H H':Hp}
theorem Rd.ext{a:Addr}{u:HO}(h:Rd H a u)(k:∀o,H a=some o->H' a=some o):Rd H' a u:=by
 rcases h with h|⟨o,h⟩
 · exact .inl (k _ h)
 · exact .inr ⟨o,k _ h⟩
theorem Rd.there{a:Addr}{u:HO}(h:Rd H a u):H a≠none:=by
 rcases h with h|⟨o,h⟩<;>rw [h]<;>exact λz=>by cases z
theorem Zd5{K:PySem.W.Frag}{a:Addr}{vs:List V}(n:av a->KL K a vs)(r:SqL K H a vs)(k:∀b o,¬av b->H b=some o->H' b=some o):SqL K H' a vs:=by
 by_cases h:av a
 · exact .inr (n h)
 · rcases r with r|r
   · exact .inl (Rd.ext r λo=>k a o h)
   · exact .inr r
theorem ZkA{K:PySem.W.Frag}{a:Addr}{vs:List V}(n:av a->KL K a vs)(r:SqL K H a vs)(k:∀b,av' b->av b\/H b=none):av' a->KL K a vs:=λz=>by
 rcases k a z with z|z
 · exact n z
 · rcases r with r|r
   · exact absurd z (Rd.there r)
   · exact r
mutual
theorem Rep.ext:∀{d:D}{v:V},(∀b o,¬av b->H b=some o->H' b=some o)->Rep cA av H d v->Rep cA av H' d v
 | .non,_,_,h=>h
 | .bl _,_,_,h=>h
 | .int _,_,_,h=>h
 | .str _,_,_,h=>h
 | .lst xs,v,k,h=>by
  unfold Rep at h ⊢;obtain⟨a,vs,e,n,r,l⟩:=h;exact⟨a,vs,e,n,Zd5 n r k,RepL.ext k l⟩
 | .tup xs,v,k,h=>by
  unfold Rep at h ⊢;obtain⟨a,vs,e,n,r,l⟩:=h;exact⟨a,vs,e,n,k a _ n r,RepL.ext k l⟩
 | .obj c ks xs,v,k,h=>by
  unfold Rep at h ⊢;obtain⟨a,dx,vs,e,n,r,z,l⟩:=h;exact⟨a,dx,vs,e,n,k a _ n r,z,RepL.ext k l⟩
 | .dct ks xs,v,k,h=>by
  unfold Rep at h ⊢;obtain⟨a,vs,e,n,r,z,l⟩:=h;exact⟨a,vs,e,n,k a _ n r,z,RepL.ext k l⟩
 | .dtt ks xs,v,k,h=>by
  unfold Rep at h ⊢;obtain⟨a,vs,e,n,r,z,l⟩:=h;exact⟨a,vs,e,n,k a _ n r,z,RepL.ext k l⟩
 | .clo i xs,v,k,h=>by
  unfold Rep at h ⊢;obtain⟨p,cl,vs,e,n,nc,r,l⟩:=h;exact⟨p,cl,vs,e,n,nc,r.ext (k p · n ·) λq hq o=>k q.2 o (nc q hq),RepL.ext k l⟩
theorem RepL.ext:∀{xs:List D}{vs:List V},(∀b o,¬av b->H b=some o->H' b=some o)->RepL cA av H xs vs->RepL cA av H' xs vs
 | [],_,_,h=>h
 |x::xs,vs,k,h=>by
  unfold RepL at h ⊢;obtain⟨v,r,e,h1,h2⟩:=h;exact⟨v,r,e,Rep.ext k h1,RepL.ext k h2⟩
end
mutual
theorem Rep.av:∀{d:D}{v:V},(∀b,av' b->av b\/H b=none)->Rep cA av H d v->Rep cA av' H d v
 | .non,_,_,h=>h
 | .bl _,_,_,h=>h
 | .int _,_,_,h=>h
 | .str _,_,_,h=>h
 | .lst xs,v,k,h=>by
  unfold Rep at h ⊢;obtain⟨a,vs,e,n,r,l⟩:=h;exact⟨a,vs,e,ZkA n r k,r,RepL.av k l⟩
 | .tup xs,v,k,h=>by
  unfold Rep at h ⊢;obtain⟨a,vs,e,n,r,l⟩:=h;exact⟨a,vs,e,λz=>(k a z).elim n (by rw [r];exact λz=>by cases z),r,RepL.av k l⟩
 | .obj c ks xs,v,k,h=>by
  unfold Rep at h ⊢;obtain⟨a,dx,vs,e,n,r,z,l⟩:=h;exact⟨a,dx,vs,e,λy=>(k a y).elim n (by rw [r];exact λz=>by cases z),r,z,RepL.av k l⟩
 | .dct ks xs,v,k,h=>by
  unfold Rep at h ⊢;obtain⟨a,vs,e,n,r,z,l⟩:=h;exact⟨a,vs,e,λy=>(k a y).elim n (by rw [r];exact λz=>by cases z),r,z,RepL.av k l⟩
 | .dtt ks xs,v,k,h=>by
  unfold Rep at h ⊢;obtain⟨a,vs,e,n,r,z,l⟩:=h;exact⟨a,vs,e,λy=>(k a y).elim n (by rw [r];exact λz=>by cases z),r,z,RepL.av k l⟩
 | .clo i xs,v,k,h=>by
  unfold Rep at h ⊢;obtain⟨p,cl,vs,e,n,nc,r,l⟩:=h;exact⟨p,cl,vs,e,λy=>(k p y).elim n r.there,λq hq y=>(k q.2 y).elim (nc q hq) (r.thereC q hq),r,RepL.av k l⟩
theorem RepL.av:∀{xs:List D}{vs:List V},(∀b,av' b->av b\/H b=none)->RepL cA av H xs vs->RepL cA av' H xs vs
 | [],_,_,h=>h
 |x::xs,vs,k,h=>by
  unfold RepL at h ⊢;obtain⟨v,r,e,h1,h2⟩:=h;exact⟨v,r,e,Rep.av k h1,RepL.av k h2⟩
end
theorem Rep.same{d:D}{v:V}(k:Same H H')(h:Rep cA av H d v):Rep cA av H' d v:=h.ext λb o _=>k b o
theorem RepL.same{xs:List D}{vs:List V}(k:Same H H')(h:RepL cA av H xs vs):RepL cA av H' xs vs:=h.ext λb o _=>k b o
theorem RepL.nil:RepL cA av H [] []:=by unfold RepL;rfl
theorem RepL.cons{d:D}{v:V}{xs:List D}{vs:List V}(h:Rep cA av H d v)(t:RepL cA av H xs vs):RepL cA av H (d::xs) (v::vs):=by
 unfold RepL;exact⟨v,vs,rfl,h,t⟩
theorem RepL.uncons{d:D}{xs:List D}{vs:List V}(h:RepL cA av H (d::xs) vs):∃v r,vs=v::r/\Rep cA av H d v/\RepL cA av H xs r:=by
 unfold RepL at h;exact h
theorem RepL.nil_of{vs:List V}(h:RepL cA av H [] vs):vs=[]:=by
 unfold RepL at h;exact h
theorem RepL.length:∀{xs:List D}{vs:List V},RepL cA av H xs vs->xs.length=vs.length
 | [],vs,h=>by rw [h.nil_of];rfl
 |x::xs,vs,h=>by
  obtain⟨v,r,rfl,_,t⟩:=h.uncons;rw [List.length_cons,List.length_cons,RepL.length t]
theorem RepL.get:∀{xs:List D}{vs:List V}{i:Nat}{x:D},RepL cA av H xs vs->xs[i]? = some x->∃v,vs[i]? = some v/\Rep cA av H x v
 | [],_,_,_,_,e=>by simp at e
 |y::xs,vs,0,x,h,e=>by
  obtain⟨v,r,rfl,h1,_⟩:=h.uncons;simp at e;subst e;exact⟨v,rfl,h1⟩
 |y::xs,vs,i+1,x,h,e=>by
  obtain⟨v,r,rfl,_,t⟩:=h.uncons;obtain⟨u,h1,h2⟩:=RepL.get (i:=i) t (by simpa using e);exact⟨u,by simpa using h1,h2⟩
theorem RepL.append:∀{xs ys:List D}{vs ws:List V},RepL cA av H xs vs->RepL cA av H ys ws->RepL cA av H (xs++ys) (vs++ws)
 | [],_,vs,_,h,t=>by rw [h.nil_of];exact t
 |x::xs,ys,vs,ws,h,t=>by
  obtain⟨v,r,rfl,h1,h2⟩:=h.uncons;exact .cons h1 (RepL.append h2 t)
theorem RepL.drop:∀{xs:List D}{vs:List V}(n:Nat),RepL cA av H xs vs->RepL cA av H (xs.drop n) (vs.drop n)
 |_,_,0,h=>h
 | [],vs,n+1,h=>by rw [h.nil_of];exact .nil
 |x::xs,vs,n+1,h=>by
  obtain⟨v,r,rfl,_,h2⟩:=h.uncons;exact RepL.drop n h2
theorem RepL.take:∀{xs:List D}{vs:List V}(n:Nat),RepL cA av H xs vs->RepL cA av H (xs.take n) (vs.take n)
 |_,_,0,h=>by simp;exact .nil
 | [],vs,n+1,h=>by rw [h.nil_of];exact .nil
 |x::xs,vs,n+1,h=>by
  obtain⟨v,r,rfl,h1,h2⟩:=h.uncons;exact .cons h1 (RepL.take n h2)
theorem RepL.set{d:D}{v:V}(hd:Rep cA av H d v):∀{xs:List D}{vs:List V}(i:Nat),RepL cA av H xs vs->RepL cA av H (xs.set i d) (vs.set i v)
 | [],vs,_,h=>by rw [h.nil_of];exact .nil
 |x::xs,vs,0,h=>by
  obtain⟨v',r,rfl,h1,h2⟩:=h.uncons;exact .cons hd h2
 |x::xs,vs,i+1,h=>by
  obtain⟨v',r,rfl,h1,h2⟩:=h.uncons;exact .cons h1 (RepL.set hd i h2)
def val:D->V
 | .bl b => .bl b
 | .int i => .int i
 | .str cs=>S cs
 |_ => .non
theorem Rep.val{d:D}{v:V}(hs:ZY d=true)(h:Rep cA av H d v):v=DL.val d:=by
 cases d<;>first|exact h|cases hs
theorem Rep.of_val{d:D}(hs:ZY d=true):Rep cA av H d (DL.val d):=by
 cases d<;>first|rfl|cases hs
theorem RepL.vals:∀{xs:List D}{vs:List V},xs.all ZY=true->RepL cA av H xs vs->vs=xs.map DL.val
 | [],vs,_,h=>h.nil_of
 |x::xs,vs,hs,h=>by
  rw [List.all_cons,Bool.and_eq_true]at hs;obtain⟨v,r,rfl,h1,h2⟩:=h.uncons;rw [List.map_cons,h1.val hs.1,RepL.vals hs.2 h2]
theorem RepL.of_vals:∀{xs:List D},xs.all ZY=true->RepL cA av H xs (xs.map DL.val)
 | [],_ => .nil
 |x::xs,hs=>by
  rw [List.all_cons,Bool.and_eq_true]at hs;exact .cons (.of_val hs.1) (RepL.of_vals hs.2)
def RepT(cA:Kn)(t i:Addr->Prop)(H:Hp):D->V->Prop
 | .lst xs,v=>∃a vs,v = .ref a/\(t a->KL cA.K a vs)/\SqL cA.K H a vs/\RepL cA i H xs vs
 | .tup xs,v=>∃a vs,v = .ref a/\¬t a/\H a=some (.tup vs)/\RepL cA i H xs vs
 | .obj c ks xs,v=>∃a dx vs,v = .ref a/\¬t a/\H a=some (.ins (cA.c c) dx ((ks.map Str.ofString).zip vs))/\ks.length=xs.length/\RepL cA i H xs vs
 | .dct ks xs,v=>∃a vs,v = .ref a/\¬t a/\H a=some (.dK (ks.zip vs))/\ks.length=xs.length/\RepL cA i H xs vs
 | .dtt ks xs,v=>∃a vs,v = .ref a/\¬t a/\H a=some (.dT (ks.zip vs))/\ks.length=xs.length/\RepL cA i H xs vs
 | .clo k xs,v=>∃p cl vs,v = .ref p/\¬t p/\(∀q∈cl,¬t q.2)/\LamAt H p (cA.lm k) cl vs/\RepL cA i H xs vs
 |d,v=>v=DL.val d
theorem Rep.t{d:D}{v:V}(h:Rep cA av H d v):RepT cA av av H d v:=by
 cases d<;>first|exact h|(unfold Rep at h;exact h)
theorem RepT.r{d:D}{v:V}(h:RepT cA av av H d v):Rep cA av H d v:=by
 cases d<;>first|exact h|(unfold Rep;exact h)
theorem RepT.weak{t t' i i':Addr->Prop}{d:D}{v:V}(ht:∀a,t' a->t a)(hi:∀a,i' a->i a)(h:RepT cA t i H d v):RepT cA t' i' H d v:=by
 cases d with
 |lst xs=>obtain⟨a,vs,e,n,r,l⟩:=h;exact⟨a,vs,e,λz=>n (ht a z),r,l.av λb z => .inl (hi b z)⟩
 |tup xs=>obtain⟨a,vs,e,n,r,l⟩:=h;exact⟨a,vs,e,λz=>n (ht a z),r,l.av λb z => .inl (hi b z)⟩
 |obj c ks xs=>obtain⟨a,dx,vs,e,n,r,z,l⟩:=h;exact⟨a,dx,vs,e,λz=>n (ht a z),r,z,l.av λb z => .inl (hi b z)⟩
 |dct ks xs=>obtain⟨a,vs,e,n,r,z,l⟩:=h;exact⟨a,vs,e,λz=>n (ht a z),r,z,l.av λb z => .inl (hi b z)⟩
 |dtt ks xs=>obtain⟨a,vs,e,n,r,z,l⟩:=h;exact⟨a,vs,e,λz=>n (ht a z),r,z,l.av λb z => .inl (hi b z)⟩
 |clo c xs=>obtain⟨p,cl,vs,e,n,nc,r,l⟩:=h;exact⟨p,cl,vs,e,λz=>n (ht p z),λq hq z=>nc q hq (ht q.2 z),r,l.av λb z => .inl (hi b z)⟩
 |_=>exact h
theorem RepT.same{t i:Addr->Prop}{d:D}{v:V}(k:Same H H')(h:RepT cA t i H d v):RepT cA t i H' d v:=by
 cases d with
 |lst xs=>obtain⟨a,vs,e,n,r,l⟩:=h;exact⟨a,vs,e,n,k.seq r,l.same k⟩
 |tup xs=>obtain⟨a,vs,e,n,r,l⟩:=h;exact⟨a,vs,e,n,k a _ r,l.same k⟩
 |obj c ks xs=>obtain⟨a,dx,vs,e,n,r,z,l⟩:=h;exact⟨a,dx,vs,e,n,k a _ r,z,l.same k⟩
 |dct ks xs=>obtain⟨a,vs,e,n,r,z,l⟩:=h;exact⟨a,vs,e,n,k a _ r,z,l.same k⟩
 |dtt ks xs=>obtain⟨a,vs,e,n,r,z,l⟩:=h;exact⟨a,vs,e,n,k a _ r,z,l.same k⟩
 |clo c xs=>obtain⟨p,cl,vs,e,n,nc,r,l⟩:=h;exact⟨p,cl,vs,e,n,nc,r.ext (k p) λq _=>k q.2,l.same k⟩
 |_=>exact h
end
abbrev Env:=List (Option D)
structure Cn where
 cA:Kn
 pin:Nat->Option (Addr ⊕ V)
def AV(av:Addr->Prop)(A:Nat->Option Addr)(a:Addr):Prop:=av a\/∃i,A i=some a
def Own(cA:Kn)(av:Addr->Prop)(H:Hp):D->Addr->Prop
 | .lst xs,a=>∃vs,H a=some (.lst vs)/\RepL cA av H xs vs
 | .obj c ks xs,a=>∃dx vs,H a=some (.ins (cA.c c) dx ((ks.map Str.ofString).zip vs))/\ks.length=xs.length/\RepL cA av H xs vs
 | .dct ks xs,a=>∃vs,H a=some (.dK (ks.zip vs))/\ks.length=xs.length/\RepL cA av H xs vs
 | .dtt ks xs,a=>∃vs,H a=some (.dT (ks.zip vs))/\ks.length=xs.length/\RepL cA av H xs vs
 |_,_=>False
structure ER(G:Cn)(ow:List Nat)(H0:Hp)(av:Addr->Prop)(A:Nat->Option Addr)(σ:St)(H:Hp)(δ:Env):Prop where
 same:Same H0 H
 avd:∀a,av a->H0 a≠none
 fr:∀i a,A i=some a->H0 a=none
 inj:∀i j a,A i=some a->A j=some a->i=j
 live:∀i a,A i=some a->H a≠none
 dom:∀i,A i≠none->i∈ow
 dom':∀i∈ow,A i≠none
 len:σ.length=δ.length
 pin:∀i a,G.2 i=some (.inl a)->A i=some a
 kept:∀i v,G.2 i=some (.inr v)->σ[i]? = some (some v)
 var:∀(i:Nat)(d:D),δ[i]? = some (some d)->∃v,σ[i]? = some (some v)/\(A i=none->Rep G.1 (AV av A) H d v)/\(∀a,A i=some a->v = .ref a/\Own G.1 (AV av A) H d a)
inductive Ql where
 |cl|tp|dt
def RepQ(cA:Kn)(av:Addr->Prop)(A:Nat->Option Addr)(H:Hp):Ql->D->V->Prop
 | .cl,d,v=>RepT cA (AV av A) (AV av A) H d v
 | .tp,d,v=>RepT cA av (AV av A) H d v
 | .dt,d,v=>RepT cA av av H d v
def Ql.it:Ql->Ql
 | .dt => .dt
 |_ => .cl
section
variable{cA:Kn}{G:Cn}{ow:List Nat}{H0 H H':Hp}{av:Addr->Prop}{A:Nat->Option Addr}{σ:St}{δ:Env}
theorem AV.l{a:Addr}(h:av a):AV av A a := .inl h
def Ql.iv(q:Ql)(av:Addr->Prop)(A:Nat->Option Addr):Addr->Prop:=match q with
 | .dt=>av
 |_=>AV av A
theorem RepQ.tp{q:Ql}{d:D}{v:V}(h:RepQ cA av A H q d v):RepT cA av (q.iv av A) H d v:=by
 cases q with
 |cl=>exact h.weak (λa => .inl) λa z=>z
 |tp=>exact h
 |dt=>exact h
theorem RepQ.any{q:Ql}{d:D}{v:V}(h:RepQ cA av A H q d v):Rep cA av H d v:=by
 cases q with
 |cl=>exact(h.weak (λa => .inl) λa => .inl).r
 |tp=>exact(h.weak (λa z=>z) λa => .inl).r
 |dt=>exact h.r
theorem RepQ.same{q:Ql}{d:D}{v:V}(k:Same H H')(h:RepQ cA av A H q d v):RepQ cA av A H' q d v:=by
 cases q<;>exact RepT.same k h
theorem ER.mono(E:ER G ow H0 av A σ H δ)(k:Same H H'):ER G ow H0 av A σ H' δ:=by
 refine⟨E.same.trans k,E.avd,E.fr,E.inj,λi a e => ?_,E.dom,E.dom',E.len,E.pin,E.kept,λi d e => ?_⟩
 · have:=E.live i a e
   cases q:H a with
   |none=>exact absurd q this
   |some o=>rw [k a o q];exact λz=>by cases z
 · obtain⟨v,h1,h2,h3⟩:=E.var i d e
   refine⟨v,h1,λz=>(h2 z).same k,λa z=>⟨(h3 a z).1,?_⟩⟩;have:=(h3 a z).2;cases d with
   |lst xs=>obtain⟨vs,q1,q2⟩:=this;exact⟨vs,k _ _ q1,q2.same k⟩
   |obj c ks xs=>obtain⟨dx,vs,q1,q0,q2⟩:=this;exact⟨dx,vs,k _ _ q1,q0,q2.same k⟩
   |dct ks xs=>obtain⟨vs,q1,q0,q2⟩:=this;exact⟨vs,k _ _ q1,q0,q2.same k⟩
   |dtt ks xs=>obtain⟨vs,q1,q0,q2⟩:=this;exact⟨vs,k _ _ q1,q0,q2.same k⟩
   |_=>exact this
theorem ER.avl(E:ER G ow H0 av A σ H δ):∀a,AV av A a->H a≠none:=λa h=>by
 rcases h with h|⟨i,h⟩
 · have:=E.avd a h
   cases q:H0 a with
   |none=>exact absurd q this
   |some o=>rw [E.same a o q];exact λz=>by cases z
 · exact E.live i a h
theorem ER.avH(E:ER G ow H0 av A σ H δ):∀a,av a->H a≠none:=λa h=>E.avl a (.inl h)
end
def VE(G:Cn)(ow:List Nat)(te:TE)(q:Ql)(ε:Env->Option D):Prop:=
 ∀H0 av A σ H δ,ER G ow H0 av A σ H δ->∀d,ε δ=some d->∀Q:VK,(∀v H',Same H H'->RepQ G.1 av A H' q d v->Q v H')->te σ H Q
def VF(G:Cn)(ow:List Nat)(te:TE)(ε:Env->Option D):Prop:=
 ∀H0 av A σ H δ,ER G ow H0 av A σ H δ->∀d,ε δ=some d->∀Q:VK,(∀p vs xs H1,Same H H1->H1 p=none->RepL G.1 (AV av A) H1 xs vs->d = .lst xs->Q (.ref p) (upd H1 p (.lst vs)))->te σ H Q
def VT(G:Cn)(ow:List Nat)(tt:TT)(τ:Env->Option Bool):Prop:=
 ∀H0 av A σ H δ,ER G ow H0 av A σ H δ->∀b,τ δ=some b->∀Q:Bool->Hp->Prop,(∀H',Same H H'->Q b H')->tt σ H Q
def RepQL(cA:Kn)(av:Addr->Prop)(A:Nat->Option Addr)(H:Hp)(q:Ql):List D->List V->Prop
 | [],vs=>vs=[]
 |x::xs,vs=>∃v r,vs=v::r/\RepQ cA av A H q x v/\RepQL cA av A H q xs r
def VA(G:Cn)(ow:List Nat)(ta:TA)(q:Ql)(α:Env->Option (List D)):Prop:=
 ∀H0 av A σ H δ,ER G ow H0 av A σ H δ->∀ds,α δ=some ds->∀Q:List V->Hp->Prop,(∀vs H',Same H H'->RepQL G.1 av A H' q ds vs->Q vs H')->ta σ H Q
section
variable{cA:Kn}{G:Cn}{ow:List Nat}
theorem RepQL.same{av:Addr->Prop}{A:Nat->Option Addr}{H H':Hp}{q:Ql}(k:Same H H'):∀{xs:List D}{vs:List V},RepQL cA av A H q xs vs->RepQL cA av A H' q xs vs
 | [],_,h=>h
 |x::xs,vs,h=>by
  obtain⟨v,r,e,h1,h2⟩:=h;exact⟨v,r,e,h1.same k,RepQL.same k h2⟩
theorem RepQL.cl{av:Addr->Prop}{A:Nat->Option Addr}{H:Hp}:∀{xs:List D}{vs:List V},RepQL cA av A H .cl xs vs->RepL cA (AV av A) H xs vs
 | [],_,h=>by unfold RepL;exact h
 |x::xs,vs,h=>by
  obtain⟨v,r,e,h1,h2⟩:=h;subst e;exact .cons (RepT.r h1) (RepQL.cl h2)
theorem RepQL.any{av:Addr->Prop}{A:Nat->Option Addr}{H:Hp}{q:Ql}:∀{xs:List D}{vs:List V},RepQL cA av A H q xs vs->RepL cA av H xs vs
 | [],_,h=>by unfold RepL;exact h
 |x::xs,vs,h=>by
  obtain⟨v,r,e,h1,h2⟩:=h;subst e;exact .cons h1.any (RepQL.any h2)
theorem VE.dt{te:TE}{q:Ql}{ε:Env->Option D}(h:VE G ow te q ε):VE G ow te .dt ε:=λH0 av A σ H δ E d e Q k=>
 h H0 av A σ H δ E d e Q λv H' s r=>k v H' s r.any.t
theorem Xa{H:Hp}{p:Addr}{o:HO}(h:H p=none):Same H (upd H p o):=ZfJ h
theorem VF.cl{te:TE}{ε:Env->Option D}(h:VF G ow te ε):VE G ow te .cl ε:=λH0 av A σ H δ E d e Q k=>
 h H0 av A σ H δ E d e Q λp vs xs H1 s hp l hd=>by
  subst hd;refine k _ _ (s.trans (Xa hp)) ⟨p,vs,rfl,λz=>((E.mono s).avl p z hp).elim,SqL.of Yo,l.same (Xa hp)⟩
def Za(i:Nat)(δ:Env):Option D:=match δ[i]? with
 |some (some d)=>some d
 |_=>none
theorem Vk{i:Nat}{δ:Env}{d:D}(h:Za i δ=some d):δ[i]? = some (some d):=by
 unfold Za at h;cases e:δ[i]? with
 |none=>rw [e]at h;cases h
 |some o=>
  rw [e]at h;cases o with
  |none=>cases h
  |some x=>exact congrArg (some∘some) (Option.some.inj h)
theorem Zd(i:Nat)(hi:(ow.contains i)=false:=by rfl):VE G ow (Uu i) .cl (Za i):=λH0 av A σ H δ E d e Q k=>by
 obtain⟨v,h1,h2,_⟩:=E.var i d (Vk e)
 have hn:A i=none:=by
  cases q:A i with
  |none=>rfl
  |some a=>
   have:=E.dom i (by rw [q];exact λz=>by cases z);simp at hi;exact absurd this hi
 exact⟨v,h1,k v H (Same.refl H) (h2 hn).t⟩
theorem Ziz(i:Nat)(hi:(ow.contains i)=true):VE G ow (Uu i) .tp (Za i):=λH0 av A σ H δ E d e Q k=>by
 obtain⟨v,h1,_,h3⟩:=E.var i d (Vk e);have hi':i∈ow:=by simpa using hi
 cases q:A i with
 |none=>exact absurd q (E.dom' i hi')
 |some a=>
  obtain⟨rfl,o⟩:=h3 a q;have na:¬av a:=λz=>E.avd a z (E.fr i a q)
  refine⟨_,h1,k _ H (Same.refl H) ?_⟩;cases d with
  |lst xs=>obtain⟨vs,q1,q2⟩:=o;exact⟨a,vs,rfl,λz=>(na z).elim,SqL.of q1,q2⟩
  |obj c ks xs=>obtain⟨dx,vs,q1,q0,q2⟩:=o;exact⟨a,dx,vs,rfl,na,q1,q0,q2⟩
  |dct ks xs=>obtain⟨vs,q1,q0,q2⟩:=o;exact⟨a,vs,rfl,na,q1,q0,q2⟩
  |dtt ks xs=>obtain⟨vs,q1,q0,q2⟩:=o;exact⟨a,vs,rfl,na,q1,q0,q2⟩
  |_=>exact False.elim o
def eC(d:D)(_:Env):Option D:=some d
theorem Zf{v:V}{d:D}(hs:ZY d=true)(hv:v=val d):VE G ow (tC v) .cl (eC d):=λH0 av A σ H δ E d' e Q k=>by
 have e':d=d':=Option.some.inj e;subst e' hv;exact k _ H (Same.refl H) (Rep.of_val hs).t
def Vu(cA:Kn)(r:R2)(f:D->D->Option D):Prop:=
 ∀(t t' i:Addr->Prop)(H:Hp)(x y:D)(vx vy:V)(d:D),(∀a,i a->H a≠none)->RepT cA t i H x vx->RepT cA t' i H y vy->f x y=some d->∀Q:VK,(∀v H',Same H H'->Rep cA i H' d v->Q v H')->r vx vy H Q
def eOp(f:D->D->Option D)(a b:Env->Option D)(δ:Env):Option D:=match a δ with
 |some x=>match b δ with
  |some y=>f x y
  |none=>none
 |none=>none
theorem ZaU{f:D->D->Option D}{a b:Env->Option D}{δ:Env}{d:D}(h:eOp f a b δ=some d):∃x y,a δ=some x/\b δ=some y/\f x y=some d:=by
 unfold eOp at h;cases ea:a δ with
 |none=>rw [ea]at h;cases h
 |some x=>
  rw [ea]at h;cases eb:b δ with
  |none=>rw [eb]at h;cases h
  |some y=>rw [eb]at h;exact⟨x,y,rfl,rfl,h⟩
def Ql.jn:Ql->Ql->Ql
 | .dt,_ => .dt
 |_,.dt => .dt
 |_,_ => .cl
theorem Zk{r:R2}{f:D->D->Option D}{ta tb:TE}{qa qb:Ql}{a b:Env->Option D}(hr:Vu G.1 r f)(ha:VE G ow ta qa a)(hb:VE G ow tb qb b):VE G ow (tOp r ta tb) (qa.jn qb) (eOp f a b):=λH0 av A σ H δ E d e Q k=>by
 obtain⟨x,y,ex,ey,ed⟩:=ZaU e;refine ha H0 av A σ H δ E x ex _ λvx H1 s1 r1=>hb H0 av A σ H1 δ (E.mono s1) y ey _ λvy H2 s2 r2 => ?_
 have E2:=(E.mono s1).mono s2;have r1':=(r1.same s2).tp;have r2':=r2.tp;have key:∀i:Addr->Prop,(∀a,i a->H2 a≠none)->RepT G.1 av i H2 x vx->RepT G.1 av i H2 y vy->(∀v H',Same H2 H'->Rep G.1 i H' d v->Q v H')->r vx vy H2 Q:=λi hi h1 h2 h3=>hr av av i H2 x y vx vy d hi h1 h2 ed Q h3
 have toav:∀{dd:D}{v:V},RepT G.1 av (AV av A) H2 dd v->RepT G.1 av av H2 dd v:=λh=>h.weak (λa z=>z) λa => .inl
 cases qa with
 |dt=>
  refine key av E2.avH r1' ?_ λv H' s3 r3=>k v H' ((s1.trans s2).trans s3) r3.t
  cases qb with
  |dt=>exact r2'
  |cl=>exact toav r2'
  |tp=>exact toav r2'
 |cl=>
  cases qb with
  |dt=>exact key av E2.avH (toav r1') r2' λv H' s3 r3=>k v H' ((s1.trans s2).trans s3) r3.t
  |cl=>exact key _ E2.avl r1' r2' λv H' s3 r3=>k v H' ((s1.trans s2).trans s3) r3.t
  |tp=>exact key _ E2.avl r1' r2' λv H' s3 r3=>k v H' ((s1.trans s2).trans s3) r3.t
 |tp=>
  cases qb with
  |dt=>exact key av E2.avH (toav r1') r2' λv H' s3 r3=>k v H' ((s1.trans s2).trans s3) r3.t
  |cl=>exact key _ E2.avl r1' r2' λv H' s3 r3=>k v H' ((s1.trans s2).trans s3) r3.t
  |tp=>exact key _ E2.avl r1' r2' λv H' s3 r3=>k v H' ((s1.trans s2).trans s3) r3.t
end
end DL
namespace DL
open PySem PySem.Spec L2
mutual
def toP:D->PyData
 | .non => .none
 | .bl b => .bool b
 | .int i => .int i
 | .str cs => .str (tx cs)
 | .lst xs => .list (UQ xs)
 | .tup xs => .tuple (UQ xs)
 | .obj _ _ _ => .dict []
 | .dct _ _ => .dict []
 | .dtt _ _ => .dict []
 | .clo _ _ => .dict []
def UQ:List D->List PyData
 | []=>[]
 |x::xs=>toP x::UQ xs
end
section
variable{X:Cx}{cA:Kn}
mutual
theorem Jc{pins:List (Addr×Obj)}{σ:L2.St}{H:Hp}{s:Shared}{av:Addr->Prop}(hK:cA.K=X.K)(I:Inv X pins σ H s):∀(d:D)(v:V)(u:Value),PyData.canLay0 (toP d)=true->Rep cA av H d v->RelV v u->∃as,Reads s.heap u (toP d) as
 | .non,v,u,_,h,r=>by
  cases(show v = .non from h);cases r;exact⟨_,.none⟩
 | .bl b,v,u,_,h,r=>by
  cases(show v = .bl b from h);cases r;exact⟨_,.bool b⟩
 | .int i,v,u,_,h,r=>by
  cases(show v = .int i from h);obtain⟨t,rfl⟩:=r;exact⟨_,.int i t⟩
 | .str cs,v,u,_,h,r=>by
  cases(show v=S cs from h);obtain⟨t,rfl⟩:=r;exact⟨_,.str _ t⟩
 | .lst xs,v,u,c,h,r=>by
  unfold Rep at h;obtain⟨a,vs,rfl,_,rd,l⟩:=h;cases r;obtain⟨its,rv,⟨ob,n,e,hc,hd,hs⟩,z⟩:=I.list (show SqL X.K H a vs from hK▸rd);obtain⟨as,ra⟩:=Za3 hK I xs vs its (by unfold toP PyData.canLay0 at c;exact c) l rv;unfold toP;exact⟨_,.list e hc hs (by simpa using ra)⟩
 | .tup xs,v,u,c,h,r=>by
  unfold Rep at h;obtain⟨a,vs,rfl,_,rd,l⟩:=h;cases r;obtain⟨z,its,rv,ob,e,hc,⟨n,hd⟩,_⟩:=(show ObjOk X.prog X.w H s.heap a (.tup vs)from I.hok a _ rd)
  obtain⟨as,ra⟩:=Za3 hK I xs vs its (by unfold toP PyData.canLay0 at c;exact c) l rv;unfold toP;exact⟨_,.tuple e hc hd (by simpa using ra)⟩
 | .obj c' ks xs,v,u,c,h,r=>by
  unfold toP PyData.canLay0 at c;cases c
 | .dct ks xs,v,u,c,h,r=>by
  unfold toP PyData.canLay0 at c;cases c
 | .dtt ks xs,v,u,c,h,r=>by
  unfold toP PyData.canLay0 at c;cases c
 | .clo _ _,v,u,c,h,r=>by
  unfold toP PyData.canLay0 at c;cases c
theorem Za3{pins:List (Addr×Obj)}{σ:L2.St}{H:Hp}{s:Shared}{av:Addr->Prop}(hK:cA.K=X.K)(I:Inv X pins σ H s):∀(xs:List D)(vs:List V)(us:List Value),PyData.canLayAll0 (UQ xs)=true->RepL cA av H xs vs->Vals vs us->∃as,ReadsAll s.heap us (UQ xs) as
 | [],vs,us,_,h,r=>by
  rw [h.nil_of]at r;cases r;exact⟨_,.nil⟩
 |x::xs,vs,us,c,h,r=>by
  obtain⟨v,rr,rfl,h1,h2⟩:=h.uncons;cases r with
  |cons r1 r2=>
   unfold UQ PyData.canLayAll0 at c;rw [Bool.and_eq_true]at c;obtain⟨a1,q1⟩:=Jc hK I x v _ c.1 h1 r1;obtain⟨a2,q2⟩:=Za3 hK I xs rr _ c.2 h2 r2;unfold UQ;exact⟨_,.cons q1 q2⟩
end
end
def eqD(x y:D):Option D:=
 if ZY x&&ZY y&&VV (val x) (val y)then some (.bl (decide (val x=val y)))
 else if SeqAt.shaped (toP x)&&SeqAt.shaped (toP y)then some (.bl (PyData.eqv (toP x) (toP y)))else none
def neD(x y:D):Option D:=match eqD x y with
 |some (.bl b)=>some (.bl (!b))
 |_=>none
def Zi2(cA:Kn)(neg:Bool):R2:=λx y H Q=>∃av av' dx dy b,Rep cA av H dx x/\Rep cA av' H dy y/\eqD dx dy=some (.bl b)/\Q (.bl (neg != b)) H
section
variable{X:Cx}{cA:Kn}
theorem Y5(hu:X.A.units+64<cLine)(hK:cA.K=X.K:=by rfl):OpR X (compareOp .Eq) (Zi2 cA false):=by
 intro pins s σ H x y v u Q I rx ry h;obtain⟨av,av',dx,dy,b,hx,hy,e,q⟩:=h;unfold eqD at e
 by_cases h1:(ZY dx&&ZY dy&&VV (val dx) (val dy))=true
 · rw [if_pos h1]at e
   simp only [Bool.and_eq_true]at h1;obtain⟨⟨s1,s2⟩,s3⟩:=h1;have e1:=hx.val s1;have e2:=hy.val s2;subst e1 e2;have e':decide (val dx=val dy)=b:=by simpa using e
   exact Zkv pins s σ H _ _ v u Q I rx ry ⟨s3,by rw [e'];simpa using q⟩
 · rw [if_neg h1]at e
   by_cases h2:(SeqAt.shaped (toP dx)&&SeqAt.shaped (toP dy))=true
   · rw [if_pos h2]at e
     rw [Bool.and_eq_true]at h2;obtain⟨as,ra⟩:=Jc hK I dx x v (SeqAt.canLay_of_shaped h2.1) hx rx;obtain⟨bs,rb⟩:=Jc hK I dy y u (SeqAt.canLay_of_shaped h2.2) hy ry;have e':PyData.eqv (toP dx) (toP dy)=b:=by simpa using e
     exact PyProof.Rows.eq_dataH ra rb h2.1 h2.2 hu (by rw [e'];exact⟨.bl b,H,I,rfl,by simpa using q⟩)
   · rw [if_neg h2]at e
     cases e
theorem Vv(hu:X.A.units+64<cLine)(hK:cA.K=X.K:=by rfl):OpR X (compareOp .NotEq) (Zi2 cA true):=by
 intro pins s σ H x y v u Q I rx ry h;obtain⟨av,av',dx,dy,b,hx,hy,e,q⟩:=h;unfold eqD at e
 by_cases h1:(ZY dx&&ZY dy&&VV (val dx) (val dy))=true
 · rw [if_pos h1]at e
   simp only [Bool.and_eq_true]at h1;obtain⟨⟨s1,s2⟩,s3⟩:=h1;have e1:=hx.val s1;have e2:=hy.val s2;subst e1 e2;have e':decide (val dx=val dy)=b:=by simpa using e
   exact Zkw pins s σ H _ _ v u Q I rx ry ⟨s3,by rw [e'];simpa using q⟩
 · rw [if_neg h1]at e
   by_cases h2:(SeqAt.shaped (toP dx)&&SeqAt.shaped (toP dy))=true
   · rw [if_pos h2]at e
     rw [Bool.and_eq_true]at h2;obtain⟨as,ra⟩:=Jc hK I dx x v (SeqAt.canLay_of_shaped h2.1) hx rx;obtain⟨bs,rb⟩:=Jc hK I dy y u (SeqAt.canLay_of_shaped h2.2) hy ry;have e':PyData.eqv (toP dx) (toP dy)=b:=by simpa using e
     exact PyProof.Rows.ne_dataH ra rb h2.1 h2.2 hu (by rw [e'];exact⟨.bl (!b),H,I,rfl,by simpa using q⟩)
   · rw [if_neg h2]at e
     cases e
theorem RepT.av0{t i:Addr->Prop}{H:Hp}{d:D}{v:V}(h:RepT cA t i H d v):Rep cA (λ_=>False) H d v:=(h.weak (λ_ z=>z.elim) λ_ z=>z.elim).r
theorem Zgp{x y d:D}(h:eqD x y=some d):∃b,d = .bl b:=by
 unfold eqD at h
 split at h
 · exact⟨_,(Option.some.inj h).symm⟩
 · split at h
   · exact⟨_,(Option.some.inj h).symm⟩
   · cases h
theorem Y6:Vu cA (Zi2 cA false) eqD:=λt t' i H x y vx vy d _ hx hy e Q k=>by
 obtain⟨b,rfl⟩:=Zgp e;exact⟨_,_,x,y,b,hx.av0,hy.av0,e,k _ H (Same.refl H) (by cases b<;>rfl)⟩
theorem Vw:Vu cA (Zi2 cA true) neD:=λt t' i H x y vx vy d _ hx hy e Q k=>by
 unfold neD at e;cases he:eqD x y with
 |none=>rw [he]at e;cases e
 |some z=>
  obtain⟨b,rfl⟩:=Zgp he;rw [he]at e;have e':D.bl (!b)=d:=Option.some.inj e;subst e';exact⟨_,_,x,y,b,hx.av0,hy.av0,he,k _ H (Same.refl H) (by cases b<;>rfl)⟩
def Jd(x:List Nat)(n:Int):List Nat:=(List.replicate n.toNat x).flatten
theorem Zca(x:List Nat):∀(k:Nat)(acc:Array Nat),(List.replicate k x.toArray).foldl (· ++ ·) acc=acc++(List.replicate k x).flatten.toArray
 |0,acc=>by simp
 |k+1,acc=>by
  rw [List.replicate_succ,List.replicate_succ,List.foldl_cons,Zca x k,List.flatten_cons];simp
theorem ZiA(x:List Nat)(n:Int):Txt.mul (tx x) n=tx (Jd x n):=by
 unfold Txt.mul Jd
 by_cases h1:n<1
 · rw [if_pos h1]
   have:n.toNat=0:=by omega
   rw [this];rfl
 · rw [if_neg h1]
   by_cases h2:(n == 1||(tx x).length == 0)=true
   · rw [if_pos h2]
     rw [Bool.or_eq_true]at h2;rcases h2 with h2|h2
     · have:n=1:=by simpa using h2
       subst this;simp
     · have : x = [] := by
        have:(tx x).length=0:=by simpa using h2
        rw [YL]at this;exact List.eq_nil_of_length_eq_zero this
       subst this;simp
   · rw [if_neg h2]
     have:=Zca x n.toNat #[];rw [this];simp
def rMulS:R2:=λx y H Q=>∃a n,x=S a/\y = .int n/\(n<2 ^ 63 /\ -(2 ^ 63)<=n/\a.length*n.toNat<=sizeLine)/\Q (S (Jd a n)) H
theorem Zg9:OpR X (binaryOp .Mult) rMulS:=by
 intro pins s σ H x y v u Q I rx ry h;obtain⟨a,n,rfl,rfl,⟨h1,h2,h3⟩,q⟩:=h;obtain⟨t,rfl⟩:=rx;obtain⟨t',rfl⟩:=ry;refine SB.mul ⟨?_,λhn hc => ?_,λhn hc => ?_⟩ λt' k=>⟨S (Jd a n),H,I.tok _,⟨_,by rw [ZiA]⟩,q⟩
 · have e1:decide (n < -(2 ^ 63:Int))=false:=decide_eq_false (by omega)
   have e2:decide (n ≥ 2 ^ 63)=false:=decide_eq_false (by omega);rw [e1,e2];rfl
 · rw [YL]
   have hs:sizeLine=16777216:=sizeLine_eq;intro hgt
   have h5:(a.length:Int)*n<=16777216:=by
    have:(a.length:Int)*n=((a.length*n.toNat:Nat):Int):=by
     rw [Int.natCast_mul,Int.toNat_of_nonneg (by omega)]
    rw [this];omega
   have h6:(2 ^ 63-1) / n<(a.length:Int):=hgt
   have h7:(2 ^ 63-1:Int)<(a.length:Int)*n:=by
    have:=Int.lt_mul_of_ediv_lt (show(0:Int)<n by omega) h6;rw [Int.mul_comm];rw [Int.mul_comm]at this;exact this
   omega
 · rw [YL]
   show decide (a.length*n.toNat>sizeLine)=false;exact decide_eq_false (by omega)
def rMulX:R2:=λx y H Q=>rI CMul (λi j => .int (i*j)) x y H Q\/rMulS x y H Q
theorem Zel:OpR X (binaryOp .Mult) rMulX:=op_mul.or Zg9
instance (i j:Int):Decidable (CMul i j):=by unfold CMul;infer_instance
instance (i j:Int):Decidable (Yb i j):=by unfold Yb;infer_instance
def addD:D->D->Option D
 | .int i,.int j=>some (.int (i+j))
 | .str a,.str b=>if a.length+b.length<=sizeLine then some (.str (a++b))else none
 |_,_=>none
def subD:D->D->Option D
 | .int i,.int j=>some (.int (i-j))
 |_,_=>none
def mulD:D->D->Option D
 | .int i,.int j=>if CMul i j then some (.int (i*j))else none
 | .str a,.int n=>if n<2 ^ 63 /\ -(2 ^ 63)<=n/\a.length*n.toNat<=sizeLine then some (.str (Jd a n))else none
 |_,_=>none
def fdivD:D->D->Option D
 | .int i,.int j=>if Yb i j then some (.int (i / j))else none
 |_,_=>none
def modD:D->D->Option D
 | .int i,.int j=>if 0<j then some (.int (i % j))else none
 |_,_=>none
def ZZ(p:Int->Int->Bool):D->D->Option D
 | .int i,.int j=>some (.bl (p i j))
 |_,_=>none
theorem XJ:Vu cA rAddX addD:=λt t' i H x y vx vy d _ hx hy e Q k=>by
 cases x<;>cases y<;>first|(cases e;done)|skip
 · cases(show vx=_ from hx);cases(show vy=_ from hy)
   cases e;exact .inl ⟨_,_,rfl,rfl,k _ H (Same.refl H) rfl⟩
 · cases(show vx=_ from hx);cases(show vy=_ from hy)
   rename_i a b;dsimp only [addD]at e
   by_cases hz:a.length+b.length<=sizeLine
   · rw [if_pos hz]at e
     cases e;exact .inr (.inl ⟨_,_,rfl,rfl,hz,k _ H (Same.refl H) rfl⟩)
   · rw [if_neg hz]at e;cases e
theorem Je:Vu cA (rI0 λi j => .int (i-j)) subD:=λt t' i H x y vx vy d _ hx hy e Q k=>by
 cases x<;>cases y<;>first|(cases e;done)|skip
 cases(show vx=_ from hx);cases(show vy=_ from hy);cases e;exact⟨_,_,rfl,rfl,k _ H (Same.refl H) rfl⟩
theorem Zgq:Vu cA rMulX mulD:=λt t' i H x y vx vy d _ hx hy e Q k=>by
 cases x<;>cases y<;>first|(cases e;done)|skip
 · cases(show vx=_ from hx);cases(show vy=_ from hy)
   rename_i a b;dsimp only [mulD]at e
   by_cases hz:CMul a b
   · rw [if_pos hz]at e
     cases e;exact .inl ⟨_,_,rfl,rfl,hz,k _ H (Same.refl H) rfl⟩
   · rw [if_neg hz]at e;cases e
 · cases(show vx=_ from hx);cases(show vy=_ from hy)
   rename_i a n;dsimp only [mulD]at e
   by_cases hz:n<2 ^ 63 /\ -(2 ^ 63)<=n/\a.length*n.toNat<=sizeLine
   · rw [if_pos hz]at e
     cases e;exact .inr ⟨_,_,rfl,rfl,hz,k _ H (Same.refl H) rfl⟩
   · rw [if_neg hz]at e;cases e
theorem Vx:Vu cA (rI Yb λi j => .int (i / j)) fdivD:=λt t' i H x y vx vy d _ hx hy e Q k=>by
 cases x<;>cases y<;>first|(cases e;done)|skip
 cases(show vx=_ from hx);cases(show vy=_ from hy);rename_i a b;dsimp only [fdivD]at e
 by_cases hz:Yb a b
 · rw [if_pos hz]at e
   cases e;exact⟨_,_,rfl,rfl,hz,k _ H (Same.refl H) rfl⟩
 · rw [if_neg hz]at e;cases e
theorem YM:Vu cA (rI (λ_ j=>0<j) λi j => .int (i % j)) modD:=λt t' i H x y vx vy d _ hx hy e Q k=>by
 cases x<;>cases y<;>first|(cases e;done)|skip
 cases(show vx=_ from hx);cases(show vy=_ from hy);rename_i a b;dsimp only [modD]at e
 by_cases hz:0<b
 · rw [if_pos hz]at e
   cases e;exact⟨_,_,rfl,rfl,hz,k _ H (Same.refl H) rfl⟩
 · rw [if_neg hz]at e;cases e
theorem Ug{p:Int->Int->Bool}:Vu cA (rI0 λi j => .bl (p i j)) (ZZ p):=λt t' i H x y vx vy d _ hx hy e Q k=>by
 cases x<;>cases y<;>first|(cases e;done)|skip
 cases(show vx=_ from hx);cases(show vy=_ from hy);cases e;exact⟨_,_,rfl,rfl,k _ H (Same.refl H) rfl⟩
def inD(neg:Bool):D->D->Option D
 | .str [c],.str b=>some (.bl (neg != decide (c∈b)))
 |x,.lst ys=>if ZY x&&ys.all ZY then some (.bl (if neg then !(inV (val x) (ys.map val))else inV (val x) (ys.map val)))else none
 |x,.tup ys=>if ZY x&&ys.all ZY then some (.bl (if neg then !(inV (val x) (ys.map val))else inV (val x) (ys.map val)))else none
 |_,_=>none
theorem ZbL{d:D}:ZY d=true->VY (val d)=true:=by
 intro h;cases d<;>first|rfl|cases h
theorem Za4:∀{xs:List D},xs.all ZY=true->(xs.map val).all VY=true
 | [],_=>rfl
 |x::xs,h=>by
  rw [List.all_cons,Bool.and_eq_true]at h;rw [List.map_cons,List.all_cons,ZbL h.1,Za4 h.2];rfl
theorem Zha{t i:Addr->Prop}{H:Hp}{d:D}{v:V}(hs:ZY d=true)(h:RepT cA t i H d v):v=val d:=by
 cases d<;>first|exact h|cases hs
theorem Zfo{neg:Bool}:Vu cA (Zi0 cA.K neg) (inD neg):=λt t' i H x y vx vy d _ hx hy e Q k=>by
 have seq:∀ys,(y = .lst ys\/y = .tup ys)->(if ZY x&&ys.all ZY then some (D.bl (if neg then !(inV (val x) (ys.map val))else inV (val x) (ys.map val)))else none)=some d->Zi0 cA.K neg vx vy H Q:=λys hy' e=>by
  by_cases hz:(ZY x&&ys.all ZY)=true
  · rw [if_pos hz]at e
    rw [Bool.and_eq_true]at hz;have ex:=Zha hz.1 hx;subst ex;cases e;rcases hy' with rfl|rfl
    · obtain⟨a,vs,rfl,_,rd,l⟩:=hy
      have ev:=l.vals hz.2;subst ev;exact .inr ⟨a,_,rfl,.inl rd,ZbL hz.1,Za4 hz.2,k _ H (Same.refl H) rfl⟩
    · obtain⟨a,vs,rfl,_,rd,l⟩:=hy
      have ev:=l.vals hz.2;subst ev;exact .inr ⟨a,_,rfl,.inr (SqT.of rd),ZbL hz.1,Za4 hz.2,k _ H (Same.refl H) rfl⟩
  · rw [if_neg hz]at e;cases e
 cases y with
 |lst ys=>exact seq ys (.inl rfl) (by cases x<;>first|exact e|(rename_i cs;cases cs<;>first|exact e|(rename_i c r;cases r<;>exact e)))
 |tup ys=>exact seq ys (.inr rfl) (by cases x<;>first|exact e|(rename_i cs;cases cs<;>first|exact e|(rename_i c r;cases r<;>exact e)))
 |str b=>
  cases x with
  |str cs=>
   cases cs with
   |nil=>cases e
   |cons c r=>
    cases r with
    |cons _ _=>cases e
    |nil=>
     cases(show vx=_ from hx);cases(show vy=_ from hy);cases e;exact .inl ⟨c,b,rfl,rfl,k _ H (Same.refl H) rfl⟩
  |_=>cases e
 |_=>cases x<;>first|(cases e;done)|(rename_i cs;cases cs<;>first|(cases e;done)|(rename_i c r;cases r<;>cases e))
def ixD:D->D->Option D
 | .lst xs,.int i=>atI xs i
 | .tup xs,.int i=>atI xs i
 | .str cs,.int i=>if cs.length<=sizeLine then(atI cs i).map λc => .str [c]else none
 |_,_=>none
theorem Zem{av:Addr->Prop}{H:Hp}{xs:List D}{vs:List V}{i:Int}{d:D}(l:RepL cA av H xs vs)(h:atI xs i=some d):∃v,atI vs i=some v/\Rep cA av H d v:=by
 unfold atI at h ⊢;rw [l.length]at h;cases e:ixN vs.length i with
 |none=>rw [e]at h;cases h
 |some j=>
  rw [e]at h;exact l.get h
theorem ZD:Vu cA (ZjY cA.K) ixD:=λt t' i H x y vx vy d _ hx hy e Q k=>by
 cases y<;>first|(cases x<;>cases e;done)|skip
 rename_i j;cases(show vy=_ from hy);cases x<;>first|(cases e;done)|skip
 · cases(show vx=_ from hx)
   rename_i cs;dsimp only [ixD]at e
   by_cases hz:cs.length<=sizeLine
   · rw [if_pos hz]at e
     cases ea:atI cs j with
     |none=>rw [ea]at e;cases e
     |some c=>
      rw [ea]at e;cases e;exact .inr (.inr ⟨cs,j,c,rfl,rfl,hz,ea,k _ H (Same.refl H) rfl⟩)
   · rw [if_neg hz]at e;cases e
 · obtain⟨a,vs,rfl,_,rd,l⟩:=hx
   obtain⟨v,h1,h2⟩:=Zem l e;exact .inl ⟨a,vs,j,v,rfl,rfl,rd,h1,k v H (Same.refl H) h2⟩
 · obtain⟨a,vs,rfl,_,rd,l⟩:=hx
   obtain⟨v,h1,h2⟩:=Zem l e;exact .inr (.inl ⟨a,vs,j,v,rfl,rfl,SqT.of rd,h1,k v H (Same.refl H) h2⟩)
end
end DL
namespace DL
open PySem PySem.Spec L2
section
variable{cA:Kn}{G:Cn}{ow:List Nat}
def bD:Option D->Option Bool
 |some (.bl b)=>some b
 |_=>none
theorem Zen{o:Option D}{b:Bool}(h:bD o=some b):o=some (.bl b):=by
 cases o with
 |none=>cases h
 |some d=>cases d<;>first|(cases h;rfl)|cases h
def xB(ε:Env->Option D)(δ:Env):Option Bool:=bD (ε δ)
theorem ZW{te:TE}{q:Ql}{ε:Env->Option D}(h:VE G ow te q ε):VT G ow (tB te) (xB ε):=λH0 av A σ H δ E b e Q k=>
 h H0 av A σ H δ E _ (Zen e) _ λv H' s r=>⟨b,by cases q<;>exact r,k H' s⟩
theorem Yg{te:TE}{q:Ql}{ε:Env->Option D}(h:VE G ow te q ε):VT G ow (ZhR te) (xB ε):=λH0 av A σ H δ E b e Q k=>
 h H0 av A σ H δ E _ (Zen e) _ λv H' s r=>⟨b,by cases q<;>exact r,k H' s⟩
def ZQ(τ:Env->Option Bool)(δ:Env):Option Bool:=match τ δ with
 |some b=>some (!b)
 |none=>none
theorem XM{t:TT}{τ:Env->Option Bool}(h:VT G ow t τ):VT G ow (ZlQ t) (ZQ τ):=λH0 av A σ H δ E b e Q k=>by
 unfold ZQ at e;cases he:τ δ with
 |none=>rw [he]at e;cases e
 |some c=>
  rw [he]at e;cases e;exact h H0 av A σ H δ E c he _ λH' s=>k H' s
def Yl(τ υ:Env->Option Bool)(δ:Env):Option Bool:=match τ δ with
 |some true=>υ δ
 |some false=>some false
 |none=>none
def xOr(τ υ:Env->Option Bool)(δ:Env):Option Bool:=match τ δ with
 |some true=>some true
 |some false=>υ δ
 |none=>none
theorem Zgr{t u:TT}{τ υ:Env->Option Bool}(h:VT G ow t τ)(h':VT G ow u υ):VT G ow (ZlP t u) (Yl τ υ):=λH0 av A σ H δ E b e Q k=>by
 unfold Yl at e;cases he:τ δ with
 |none=>rw [he]at e;cases e
 |some c=>
  rw [he]at e;refine h H0 av A σ H δ E c he _ λH' s => ?_
  cases c with
  |true=>exact VZ (h' H0 av A σ H' δ (E.mono s) b e _ λH2 s2=>k H2 (s.trans s2))
  |false=>cases e;exact Ue (k H' s)
theorem X8{t u:TT}{τ υ:Env->Option Bool}(h:VT G ow t τ)(h':VT G ow u υ):VT G ow (tOr t u) (xOr τ υ):=λH0 av A σ H δ E b e Q k=>by
 unfold xOr at e;cases he:τ δ with
 |none=>rw [he]at e;cases e
 |some c=>
  rw [he]at e;refine h H0 av A σ H δ E c he _ λH' s => ?_
  cases c with
  |true=>cases e;exact VZ (k H' s)
  |false=>exact Ue (h' H0 av A σ H' δ (E.mono s) b e _ λH2 s2=>k H2 (s.trans s2))
theorem Xi:VT G ow tYes (λ_=>some true):=λH0 av A σ H δ E b e Q k=>by
 cases e;exact k H (Same.refl H)
theorem blq{av:Addr->Prop}{A:Nat->Option Addr}{H:Hp}{q:Ql}{b:Bool}:RepQ cA av A H q (.bl b) (.bl b):=by cases q<;>exact rfl
theorem qbl{av:Addr->Prop}{A:Nat->Option Addr}{H:Hp}{q:Ql}{b:Bool}{v:V}(h:RepQ cA av A H q (.bl b) v):v = .bl b:=by cases q<;>exact h
def Yh(a b:Env->Option D)(δ:Env):Option D:=match a δ with
 |some (.bl true)=>b δ
 |some (.bl false)=>some (.bl false)
 |_=>none
def eOr(a b:Env->Option D)(δ:Env):Option D:=match a δ with
 |some (.bl true)=>some (.bl true)
 |some (.bl false)=>b δ
 |_=>none
def Yp(a:Env->Option D)(δ:Env):Option D:=match a δ with
 |some (.bl b)=>some (.bl (!b))
 |_=>none
theorem Jf{ta tb:TE}{qa qb:Ql}{a b:Env->Option D}(ha:VE G ow ta qa a)(hb:VE G ow tb qb b):VE G ow (ZhN ta tb) qb (Yh a b):=λH0 av A σ H δ E d e Q k=>by
 unfold Yh at e;cases he:a δ with
 |none=>rw [he]at e;cases e
 |some x=>
  rw [he]at e;cases x<;>first|(cases e;done)|skip
  rename_i c;refine ha H0 av A σ H δ E _ he _ λv H' s r=>⟨c,qbl r,?_⟩
  cases c with
  |true=>exact VZ (hb H0 av A σ H' δ (E.mono s) d e _ λv2 H2 s2 r2=>k v2 H2 (s.trans s2) r2)
  |false=>cases e;exact Ue (k _ H' s blq)
theorem ZkB{ta tb:TE}{qa qb:Ql}{a b:Env->Option D}(ha:VE G ow ta qa a)(hb:VE G ow tb qb b):VE G ow (ZlR ta tb) qb (eOr a b):=λH0 av A σ H δ E d e Q k=>by
 unfold eOr at e;cases he:a δ with
 |none=>rw [he]at e;cases e
 |some x=>
  rw [he]at e;cases x<;>first|(cases e;done)|skip
  rename_i c;refine ha H0 av A σ H δ E _ he _ λv H' s r=>⟨c,qbl r,?_⟩
  cases c with
  |false=>exact Ue (hb H0 av A σ H' δ (E.mono s) d e _ λv2 H2 s2 r2=>k v2 H2 (s.trans s2) r2)
  |true=>cases e;exact VZ (k _ H' s blq)
theorem Zgs{ta:TE}{qa:Ql}{a:Env->Option D}(ha:VE G ow ta qa a):VE G ow (ZhO ta) .cl (Yp a):=λH0 av A σ H δ E d e Q k=>by
 unfold Yp at e;cases he:a δ with
 |none=>rw [he]at e;cases e
 |some x=>
  rw [he]at e;cases x<;>first|(cases e;done)|skip
  cases e;exact ha H0 av A σ H δ E _ he _ λv H' s r=>⟨_,qbl r,k _ H' s blq⟩
def eIf(τ:Env->Option Bool)(a b:Env->Option D)(δ:Env):Option D:=match τ δ with
 |some true=>a δ
 |some false=>b δ
 |none=>none
theorem ZgP{t:TT}{ta tb:TE}{q:Ql}{τ:Env->Option Bool}{a b:Env->Option D}(ht:VT G ow t τ)(ha:VE G ow ta q a)(hb:VE G ow tb q b):VE G ow (tIf t ta tb) q (eIf τ a b):=λH0 av A σ H δ E d e Q k=>by
 unfold eIf at e;cases he:τ δ with
 |none=>rw [he]at e;cases e
 |some c=>
  rw [he]at e;refine ht H0 av A σ H δ E c he _ λH' s => ?_
  cases c with
  |true=>exact VZ (ha H0 av A σ H' δ (E.mono s) d e _ λv H2 s2 r=>k v H2 (s.trans s2) r)
  |false=>exact Ue (hb H0 av A σ H' δ (E.mono s) d e _ λv H2 s2 r=>k v H2 (s.trans s2) r)
def Yq:D->Bool
 | .non=>true
 |_=>false
theorem Zeo{av:Addr->Prop}{H:Hp}{d:D}{v:V}(h:Rep cA av H d v):decide (v = .non)=Yq d:=by
 cases d with
 |non=>cases(show v=_ from h);rfl
 |bl b=>cases(show v=_ from h);rfl
 |int i=>cases(show v=_ from h);rfl
 |str cs=>cases(show v=_ from h);rfl
 |lst xs=>unfold Rep at h;obtain⟨a,vs,rfl,_⟩:=h;rfl
 |tup xs=>unfold Rep at h;obtain⟨a,vs,rfl,_⟩:=h;rfl
 |obj c ks xs=>unfold Rep at h;obtain⟨a,dx,vs,rfl,_⟩:=h;rfl
 |dct ks xs=>unfold Rep at h;obtain⟨a,vs,rfl,_⟩:=h;rfl
 |dtt ks xs=>unfold Rep at h;obtain⟨a,vs,rfl,_⟩:=h;rfl
 |clo c r=>unfold Rep at h;obtain⟨p,cl,vs,rfl,_⟩:=h;rfl
def ZU(a:Env->Option D)(δ:Env):Option D:=match a δ with
 |some d=>some (.bl (Yq d))
 |none=>none
def Yr(a:Env->Option D)(δ:Env):Option D:=match a δ with
 |some d=>some (.bl (!Yq d))
 |none=>none
theorem X9{ta:TE}{qa:Ql}{a:Env->Option D}(ha:VE G ow ta qa a):VE G ow (ZlO ta) .cl (ZU a):=λH0 av A σ H δ E d e Q k=>by
 unfold ZU at e;cases he:a δ with
 |none=>rw [he]at e;cases e
 |some x=>
  rw [he]at e;cases e;refine ha H0 av A σ H δ E _ he _ λv H' s r => ?_
  rw [Zeo r.any];exact k _ H' s blq
theorem Zhb{ta:TE}{qa:Ql}{a:Env->Option D}(ha:VE G ow ta qa a):VE G ow (ZhM ta) .cl (Yr a):=λH0 av A σ H δ E d e Q k=>by
 unfold Yr at e;cases he:a δ with
 |none=>rw [he]at e;cases e
 |some x=>
  rw [he]at e;cases e;refine ha H0 av A σ H δ E _ he _ λv H' s r => ?_
  rw [Zeo r.any];exact k _ H' s blq
def YD(f g:D->D->Option D)(a b c:Env->Option D)(δ:Env):Option D:=match eOp f a b δ with
 |some (.bl true)=>eOp g b c δ
 |some (.bl false)=>some (.bl false)
 |_=>none
theorem Zde{p p':Int->Int->Bool}{ta tb tc:TE}{qa qb qc:Ql}{a b c:Env->Option D}(ha:VE G ow ta qa a)(hb:VE G ow tb qb b)(hc:VE G ow tc qc c) :
 VE G ow (Zgl (rI0 λi j => .bl (p i j)) (rI0 λi j => .bl (p' i j)) ta tb tc) .cl (YD (ZZ p) (ZZ p') a b c):=λH0 av A σ H δ E d e Q k=>by
 unfold YD at e;cases he:eOp (ZZ p) a b δ with
 |none=>rw [he]at e;cases e
 |some z=>
  rw [he]at e;obtain⟨x,y,ex,ey,ez⟩:=ZaU he;cases x<;>cases y<;>first|(cases ez;done)|skip
  rename_i i j;cases ez;refine ha H0 av A σ H δ E _ ex _ λvx H1 s1 r1=>hb H0 av A σ H1 δ (E.mono s1) _ ey _ λvy H2 s2 r2 => ?_
  have e1:vx = .int i:=r1.any;have e2:vy = .int j:=r2.any;subst e1 e2;refine⟨i,j,rfl,rfl,p i j,rfl,?_⟩;have E2:=(E.mono s1).mono s2;cases hp:p i j with
  |false=>
   rw [hp]at e;cases e;exact Ue (k _ H2 (s1.trans s2) blq)
  |true=>
   rw [hp]at e;obtain⟨y',w',ey',ew,ez⟩:=ZaU e;rw [ey]at ey';cases ey';cases w'<;>first|(cases ez;done)|skip
   rename_i l;cases ez;refine VZ (hc H0 av A σ H2 δ E2 _ ew _ λvw H3 s3 r3 => ?_);have e3:vw = .int l:=r3.any;subst e3;exact⟨j,l,rfl,rfl,k _ H3 ((s1.trans s2).trans s3) blq⟩
def Yv:D->Option D
 | .int i=>some (.int (-i))
 |_=>none
def eUn(f:D->Option D)(a:Env->Option D)(δ:Env):Option D:=match a δ with
 |some x=>f x
 |none=>none
theorem ZcZ{ta:TE}{qa:Ql}{a:Env->Option D}(ha:VE G ow ta qa a):VE G ow (tUn (rU λi => .int (-i)) ta) .cl (eUn Yv a):=λH0 av A σ H δ E d e Q k=>by
 unfold eUn at e;cases he:a δ with
 |none=>rw [he]at e;cases e
 |some x=>
  rw [he]at e;cases x<;>first|(cases e;done)|skip
  cases e;refine ha H0 av A σ H δ E _ he _ λv H' s r => ?_
  have e1:=r.any;exact⟨_,e1,k _ H' s rfl⟩
def eNil(_:Env):Option (List D):=some []
def Zb(a:Env->Option D)(r:Env->Option (List D))(δ:Env):Option (List D):=match a δ with
 |some x=>match r δ with
  |some xs=>some (x::xs)
  |none=>none
 |none=>none
theorem Zg{q:Ql}:VA G ow tNil q eNil:=λH0 av A σ H δ E ds e Q k=>by
 cases e;exact k [] H (Same.refl H) rfl
theorem Ze{te:TE}{ta:TA}{q:Ql}{a:Env->Option D}{r:Env->Option (List D)}(ha:VE G ow te q a)(hr:VA G ow ta q r):VA G ow (Vj te ta) q (Zb a r):=λH0 av A σ H δ E ds e Q k=>by
 unfold Zb at e;cases he:a δ with
 |none=>rw [he]at e;cases e
 |some x=>
  rw [he]at e;cases hr':r δ with
  |none=>rw [hr']at e;cases e
  |some xs=>
   rw [hr']at e;cases e;exact ha H0 av A σ H δ E x he _ λv H1 s1 r1=>hr H0 av A σ H1 δ (E.mono s1) xs hr' _ λvs H2 s2 r2=>k _ H2 (s1.trans s2) ⟨v,vs,rfl,r1.same s2,r2⟩
theorem RepQL.length{av:Addr->Prop}{A:Nat->Option Addr}{H:Hp}{q:Ql}{xs:List D}{vs:List V}(h:RepQL cA av A H q xs vs):xs.length=vs.length:=h.any.length
def ZE(α:Env->Option (List D))(δ:Env):Option D:=match α δ with
 |some xs=>if xs.length<=sizeLine then some (.lst xs)else none
 |none=>none
theorem Y4{t:TA}{α:Env->Option (List D)}(h:VA G ow t .cl α):VF G ow (ZlY t) (ZE α):=λH0 av A σ H δ E d e Q k=>by
 unfold ZE at e;cases he:α δ with
 |none=>rw [he]at e;cases e
 |some xs=>
  rw [he]at e
  by_cases hz:xs.length<=sizeLine
  · have e':D.lst xs=d:=by simpa [hz]using e
    exact h H0 av A σ H δ E xs he _ λvs H1 s1 r1=>⟨by rw [<-r1.length];exact hz,λp hp=>k p vs xs H1 s1 hp r1.cl e'.symm⟩
  · simp [hz]at e
def Z1(α:Env->Option (List D))(δ:Env):Option D:=match α δ with
 |some xs=>if xs.length<=sizeLine then some (.tup xs)else none
 |none=>none
theorem Va{t:TA}{α:Env->Option (List D)}(h:VA G ow t .cl α):VE G ow (ZlX t) .cl (Z1 α):=λH0 av A σ H δ E d e Q k=>by
 unfold Z1 at e;cases he:α δ with
 |none=>rw [he]at e;cases e
 |some xs=>
  rw [he]at e
  by_cases hz:xs.length<=sizeLine
  · have e':D.tup xs=d:=by simpa [hz]using e
    subst e';refine h H0 av A σ H δ E xs he _ λvs H1 s1 r1=>⟨by rw [<-r1.length];exact hz,λp hp=>k _ _ (s1.trans (Xa hp)) ⟨p,vs,rfl,λz=>(E.mono s1).avl p z hp,Yo,r1.cl.same (Xa hp)⟩⟩
  · simp [hz]at e
def Uh(cA:Kn)(i:Addr->Prop)(H:Hp):List D->List V->Prop
 | [],vs=>vs=[]
 |x::xs,vs=>∃v r,vs=v::r/\(∃t,RepT cA t i H x v)/\Uh cA i H xs r
theorem RepQL.il{av:Addr->Prop}{A:Nat->Option Addr}{H:Hp}{q:Ql}:∀{xs:List D}{vs:List V},RepQL cA av A H q xs vs->Uh cA (q.iv av A) H xs vs
 | [],_,h=>h
 |x::xs,vs,h=>by
  obtain⟨v,r,e,h1,h2⟩:=h;exact⟨v,r,e,⟨_,h1.tp⟩,RepQL.il h2⟩
def Qm(cA:Kn)(r:List V->Hp->VK->Prop)(f:List D->Option D):Prop:=
 ∀(i:Addr->Prop)(H:Hp)(ds:List D)(vs:List V)(d:D),(∀a,i a->H a≠none)->Uh cA i H ds vs->f ds=some d->∀Q:VK,(∀v H',Same H H'->Rep cA i H' d v->Q v H')->r vs H Q
def eCB(f:List D->Option D)(α:Env->Option (List D))(δ:Env):Option D:=match α δ with
 |some ds=>f ds
 |none=>none
theorem ZL{r:List V->Hp->VK->Prop}{f:List D->Option D}{t:TA}{q:Ql}{α:Env->Option (List D)}(hr:Qm G.1 r f)(h:VA G ow t q α):VE G ow (tCB r t) q.it (eCB f α):=λH0 av A σ H δ E d e Q k=>by
 unfold eCB at e;cases he:α δ with
 |none=>rw [he]at e;cases e
 |some ds=>
  rw [he]at e;refine h H0 av A σ H δ E ds he _ λvs H1 s1 r1 => ?_
  have E1:=E.mono s1;cases q with
  |cl=>exact hr _ H1 ds vs d E1.avl r1.il e _ λv H' s r=>k v H' (s1.trans s) r.t
  |tp=>exact hr _ H1 ds vs d E1.avl r1.il e _ λv H' s r=>k v H' (s1.trans s) r.t
  |dt=>exact hr _ H1 ds vs d E1.avH r1.il e _ λv H' s r=>k v H' (s1.trans s) r.t
theorem il1{i:Addr->Prop}{H:Hp}{x:D}{vs:List V}(h:Uh cA i H [x] vs):∃v t,vs=[v]/\RepT cA t i H x v:=by
 obtain⟨v,r,rfl,⟨t,h1⟩,h2⟩:=h;cases(show r=[]from h2);exact⟨v,t,rfl,h1⟩
theorem il2{i:Addr->Prop}{H:Hp}{x y:D}{vs:List V}(h:Uh cA i H [x,y] vs):∃v u t t',vs=[v,u]/\RepT cA t i H x v/\RepT cA t' i H y u:=by
 obtain⟨v,r,rfl,⟨t,h1⟩,u,r',rfl,⟨t',h2⟩,h3⟩:=h;cases(show r'=[]from h3);exact⟨v,u,t,t',rfl,h1,h2⟩
def lenD:List D->Option D
 | [.str a]=>if a.length<=sizeLine then some (.int a.length)else none
 | [.lst xs]=>some (.int xs.length)
 | [.tup xs]=>some (.int xs.length)
 |_=>none
theorem Yw:Qm cA (ZgO cA.K) lenD:=λi H ds vs d _ h e Q k=>by
 cases ds with
 |nil=>cases e
 |cons x r=>
  cases r with
  |cons _ _=>cases x<;>cases e
  |nil=>
   obtain⟨v,t,rfl,hx⟩:=il1 h;cases x<;>first|(cases e;done)|skip
   · rename_i a
     dsimp only [lenD]at e
     by_cases hz:a.length<=sizeLine
     · rw [if_pos hz]at e
       cases e;exact .inl ⟨a,by rw [show v=S a from hx],hz,k _ H (Same.refl H) rfl⟩
     · rw [if_neg hz]at e;cases e
   · obtain⟨a,ws,rfl,_,rd,l⟩:=hx
     cases e;exact .inr ⟨a,ws,rfl,.inl rd,k _ H (Same.refl H) (by rw [l.length];rfl)⟩
   · obtain⟨a,ws,rfl,_,rd,l⟩:=hx
     cases e;exact .inr ⟨a,ws,rfl,.inr (SqT.of rd),k _ H (Same.refl H) (by rw [l.length];rfl)⟩
def minD:List D->Option D
 | [.int i,.int j]=>some (.int (if j<i then j else i))
 |_=>none
def YX:List D->Option D
 | [.int i,.int j]=>some (.int (if j>i then j else i))
 |_=>none
theorem Zhc{ds:List D}{d:D}(e:minD ds=some d):∃i j,ds=[.int i,.int j]/\d = .int (if j<i then j else i):=by
 unfold minD at e
 split at e
 · exact⟨_,_,rfl,(Option.some.inj e).symm⟩
 · cases e
theorem ZiB:Qm cA (λxs H Q=>∃i j,xs=[.int i,.int j]/\Q (.int (if j<i then j else i)) H) minD:=λi H ds vs d _ h e Q k=>by
 obtain⟨a,b,rfl,rfl⟩:=Zhc e;obtain⟨v,u,t,t',rfl,h1,h2⟩:=il2 h;cases(show v=_ from h1);cases(show u=_ from h2);exact⟨a,b,rfl,k _ H (Same.refl H) rfl⟩
def Vy:List D->Option (List Bool)
 | []=>some []
 | .bl b::r=>match Vy r with
  |some bs=>some (b::bs)
  |none=>none
 |_=>none
theorem Zdf:∀{xs:List D}{bs:List Bool},Vy xs=some bs->xs=bs.map D.bl
 | [],bs,h=>by cases h;rfl
 |x::xs,bs,h=>by
  cases x<;>first|(cases h;done)|skip
  rename_i b;unfold Vy at h;cases hr:Vy xs with
  |none=>rw [hr]at h;cases h
  |some cs=>
   rw [hr]at h;cases h;rw [List.map_cons,Zdf hr]
theorem ZaB(bs:List Bool):Vy (bs.map D.bl)=some bs:=by
 induction bs with
 |nil=>rfl
 |cons b bs ih=>rw [List.map_cons,Vy,ih]
def XN(f:List Bool->Bool):List D->Option D
 | [.lst xs]=>match Vy xs with
  |some bs=>some (.bl (f bs))
  |none=>none
 |_=>none
theorem Qn{f:List Bool->Bool}:Qm cA (Ja cA.K f) (XN f):=λi H ds vs d _ h e Q k=>by
 unfold XN at e
 split at e
 · rename_i xs
   cases hb:Vy xs with
   |none=>rw [hb]at e;cases e
   |some bs=>
    rw [hb]at e;cases e;obtain⟨v,t,rfl,a,ws,rfl,_,rd,l⟩:=il1 h;have ex:=Zdf hb;subst ex;have ev:=l.vals (by rw [List.all_map];exact List.all_eq_true.mpr λ_ _=>rfl);rw [List.map_map]at ev;subst ev;exact⟨a,bs,rfl,rd,k _ H (Same.refl H) rfl⟩
 · cases e
def intD:List D->Option D
 | [.str a]=>if a.length<=640/\a≠[]/\a.all ZiZ=true then some (.int (ZjW a:Nat))else none
 | [.bl b]=>some (.int (if b then 1 else 0))
 |_=>none
theorem ZiC:Qm cA rIntX intD:=λi H ds vs d _ h e Q k=>by
 unfold intD at e
 split at e
 · rename_i a
   obtain⟨v,t,rfl,hx⟩:=il1 h;cases(show v=_ from hx)
   by_cases hz:a.length<=640/\a≠[]/\a.all ZiZ=true
   · rw [if_pos hz]at e
     cases e;exact .inl ⟨a,rfl,hz.1,hz.2.1,hz.2.2,k _ H (Same.refl H) rfl⟩
   · rw [if_neg hz]at e;cases e
 · rename_i b
   obtain⟨v,t,rfl,hx⟩:=il1 h;cases(show v=_ from hx);cases e;exact .inr ⟨b,rfl,k _ H (Same.refl H) rfl⟩
 · cases e
def V0:List D->Option D
 | [.lst xs]=>some (.tup xs)
 | [.tup xs]=>some (.tup xs)
 |_=>none
def ZhV:List D->Option D
 | [.lst xs]=>some (.lst xs)
 | [.tup xs]=>some (.lst xs)
 |_=>none
theorem ZaV{t:TA}{α:Env->Option (List D)}(h:VA G ow t .cl α):VE G ow (tCB (Zgo G.1.K) t) .cl (eCB V0 α):=λH0 av A σ H δ E d e Q k=>by
 unfold eCB at e;cases he:α δ with
 |none=>rw [he]at e;cases e
 |some ds=>
  rw [he]at e;refine h H0 av A σ H δ E ds he _ λvs H1 s1 r1 => ?_
  have E1:=E.mono s1;have e:V0 ds=some d:=e;unfold V0 at e
  split at e
  · rename_i xs
    cases e;obtain⟨v,r,rfl,⟨a,ws,rfl,_,rd,l⟩,h2⟩:=r1;cases(show r=[]from h2);exact⟨a,ws,rfl,.inl ⟨rd,λp hp=>k _ _ (s1.trans (Xa hp)) ⟨p,ws,rfl,λz=>E1.avl p z hp,Yo,l.same (Xa hp)⟩⟩⟩
  · rename_i xs
    cases e;obtain⟨v,r,rfl,⟨a,ws,rfl,na,rd,l⟩,h2⟩:=r1;cases(show r=[]from h2);exact⟨a,ws,rfl,.inr ⟨SqT.of rd,k _ H1 s1 ⟨a,ws,rfl,na,rd,l⟩⟩⟩
  · cases e
end
end DL
namespace DL
open PySem PySem.Spec L2
inductive Out where
 |nx (δ:Env)
 |rt (d:D)
 |bk (δ:Env)
 |ct (δ:Env)
def ZkC(G:Cn)(owN owB owC:List Nat)(H0:Hp)(av:Addr->Prop)(De:Ends):Out->Prop
 | .nx δ'=>∀A' σ' H',ER G owN H0 av A' σ' H' δ'->De.nx σ' H'
 | .rt d=>∀v H',Same H0 H'->Rep G.1 av H' d v->De.rt v H'
 | .bk δ'=>∀A' σ' H',ER G owB H0 av A' σ' H' δ'->De.bk σ' H'
 | .ct δ'=>∀A' σ' H',ER G owC H0 av A' σ' H' δ'->De.ct σ' H'
def VS(G:Cn)(ow owN owB owC:List Nat)(ts:TS)(φ:Env->Option Out):Prop:=
 ∀H0 av A σ H δ,ER G ow H0 av A σ H δ->∀o,φ δ=some o->∀De:Ends,ZkC G owN owB owC H0 av De o->ts De σ H
def VG(G:Cn)(ow ow':List Nat)(g:TG)(γ:D->Env->Option Env):Prop:=
 ∀H0 av A σ H δ,ER G ow H0 av A σ H δ->∀d v,Rep G.1 (AV av A) H d v->∀δ',γ d δ=some δ'->∀Q:L2.St->Hp->Prop,(∀A' σ' H',Same H H'->ER G ow' H0 av A' σ' H' δ'->Q σ' H')->g v σ H Q
def sub(a b:List Nat):Bool:=a.all λx=>b.contains x
theorem ZbH{a b:List Nat}(h:sub a b=true):∀x∈a,x∈b:=λx hx=>by
 have:=List.all_eq_true.mp h x hx;simpa using this
section
variable{cA:Kn}{G:Cn}{ow owN owB owC ow1 ow2:List Nat}{H0 H H':Hp}{av:Addr->Prop}{A:Nat->Option Addr}{σ:L2.St}{δ:Env}
theorem ZcB{α:Type}{l:List (Option α)}{i j:Nat}{x y:α}(h:(l.set i (some x))[j]? = some (some y)):(j=i/\y=x/\i<l.length)\/(j≠i/\l[j]? = some (some y)):=by
 by_cases e:j=i
 · subst e
   by_cases hl:j<l.length
   · rw [List.getElem?_set_self hl]at h
     exact .inl ⟨rfl,(Option.some.inj (Option.some.inj h)).symm,hl⟩
   · rw [List.getElem?_eq_none (by simpa using hl)]at h
     cases h
 · rw [List.getElem?_set_ne (Ne.symm e)]at h
   exact .inr ⟨e,h⟩
theorem ER.set{i:Nat}{d:D}{v:V}(E:ER G ow H0 av A σ H δ)(h:Rep G.1 (AV av A) H d v)(hw:∀j,j∈ow1 ↔ j∈ow/\j≠i)(hn:G.2 i=none) :
 ER G ow1 H0 av (λj=>if j=i then none else A j) (σ.set i (some v)) H (δ.set i (some d)):=by
 have less:∀b,AV av (λj=>if j=i then none else A j) b->AV av A b:=λb z=>by
  rcases z with z|⟨j,z⟩
  · exact .inl z
  · by_cases e:j=i
    · simp [e]at z
    · simp [e]at z;exact .inr ⟨j,z⟩
 refine⟨E.same,E.avd,λj a e => ?_,λj k a e1 e2 => ?_,λj a e => ?_,λj e => ?_,λj hj => ?_,by simp [E.len],λj a e=>(by
  have q:j≠i:=λz=>by rw [z,hn]at e;cases e
  simp only [q,if_false];exact E.pin j a e),(λj v' e=>by
  have q:j≠i:=λz=>by rw [z,hn]at e;cases e
  rw [List.getElem?_set_ne (Ne.symm q)];exact E.kept j v' e),λj d' e => ?_⟩
 · by_cases q:j=i
   · simp [q]at e
   · simp [q]at e;exact E.fr j a e
 · by_cases q:j=i
   · simp [q]at e1
   · by_cases q2:k=i
     · simp [q2]at e2
     · simp [q]at e1;simp [q2]at e2;exact E.inj j k a e1 e2
 · by_cases q:j=i
   · simp [q]at e
   · simp [q]at e;exact E.live j a e
 · by_cases q:j=i
   · simp [q]at e
   · simp [q]at e;exact(hw j).mpr ⟨E.dom j e,q⟩
 · obtain⟨h1,h2⟩:=(hw j).mp hj
   simp [h2];exact E.dom' j h1
 · rcases ZcB e with⟨rfl,rfl,hl⟩|⟨q,e'⟩
   · refine⟨v,?_,λ_=>h.av λb z => .inl (less b z),λa z=>by simp at z⟩
     rw [List.getElem?_set_self (by rw [E.len];exact hl)]
   · obtain⟨v',h1,h2,h3⟩:=E.var j d' e'
     refine⟨v',by rw [List.getElem?_set_ne (Ne.symm q)];exact h1,λz => ?_,λa z => ?_⟩
     · simp [q]at z
       exact(h2 z).av λb z => .inl (less b z)
     · simp [q]at z
       obtain⟨r1,r2⟩:=h3 a z;refine⟨r1,?_⟩;cases d' with
       |lst xs=>obtain⟨vs,q1,q2⟩:=r2;exact⟨vs,q1,q2.av λb z => .inl (less b z)⟩
       |obj c ks xs=>obtain⟨dx,vs,q1,q0,q2⟩:=r2;exact⟨dx,vs,q1,q0,q2.av λb z => .inl (less b z)⟩
       |dct ks xs=>obtain⟨vs,q1,q0,q2⟩:=r2;exact⟨vs,q1,q0,q2.av λb z => .inl (less b z)⟩
       |dtt ks xs=>obtain⟨vs,q1,q0,q2⟩:=r2;exact⟨vs,q1,q0,q2.av λb z => .inl (less b z)⟩
       |_=>exact r2
theorem ER.own{i:Nat}{xs:List D}{vs:List V}{p:Addr}(E:ER G ow H0 av A σ H δ)(hp:H p=none)(l:RepL G.1 (AV av A) H xs vs)(hw:∀j,j∈ow1 ↔ j∈ow\/j=i)(hn:G.2 i=none) :
 ER G ow1 H0 av (λj=>if j=i then some p else A j) (σ.set i (some (.ref p))) (upd H p (.lst vs)) (δ.set i (some (.lst xs))):=by
 have hs:Same H (upd H p (.lst vs)):=Xa hp
 have less:∀b,AV av (λj=>if j=i then some p else A j) b->AV av A b\/H b=none:=λb z=>by
  rcases z with z|⟨j,z⟩
  · exact .inl (.inl z)
  · by_cases e:j=i
    · simp [e]at z;subst z;exact .inr hp
    · simp [e]at z;exact .inl (.inr ⟨j,z⟩)
 have np:∀j a,A j=some a->a≠p:=λj a e z=>by subst z;exact E.live j a e hp
 have h0:H0 p=none:=by
  cases q:H0 p with
  |none=>rfl
  |some o=>rw [E.same p o q]at hp;cases hp
 refine⟨E.same.trans hs,E.avd,λj a e => ?_,λj k a e1 e2 => ?_,λj a e => ?_,λj e => ?_,λj hj => ?_,by simp [E.len],λj a e=>(by
  have q:j≠i:=λz=>by rw [z,hn]at e;cases e
  simp only [q,if_false];exact E.pin j a e),(λj v' e=>by
  have q:j≠i:=λz=>by rw [z,hn]at e;cases e
  rw [List.getElem?_set_ne (Ne.symm q)];exact E.kept j v' e),λj d' e => ?_⟩
 · by_cases q:j=i
   · simp [q]at e;subst e;exact h0
   · simp [q]at e;exact E.fr j a e
 · by_cases q:j=i
   · by_cases q2:k=i
     · rw [q,q2]
     · simp [q]at e1;simp [q2]at e2
       exact absurd e1.symm (np k a e2)
   · by_cases q2:k=i
     · simp [q]at e1;simp [q2]at e2
       exact absurd e2.symm (np j a e1)
     · simp [q]at e1;simp [q2]at e2;exact E.inj j k a e1 e2
 · by_cases q:j=i
   · simp [q]at e;subst e;rw [Yo];exact λz=>by cases z
   · simp [q]at e
     rw [Zx (np j a e)];exact E.live j a e
 · by_cases q:j=i
   · exact(hw j).mpr (.inr q)
   · simp [q]at e;exact(hw j).mpr (.inl (E.dom j e))
 · by_cases q:j=i
   · simp [q]
   · simp [q]
     exact E.dom' j (((hw j).mp hj).resolve_right q)
 · rcases ZcB e with⟨rfl,rfl,hl⟩|⟨q,e'⟩
   · refine⟨.ref p,?_,λz=>by simp at z,λa z => ?_⟩
     · rw [List.getElem?_set_self (by rw [E.len];exact hl)]
     · simp at z
       subst z;exact⟨rfl,vs,Yo,(l.av less).same hs⟩
   · obtain⟨v',h1,h2,h3⟩:=E.var j d' e'
     refine⟨v',by rw [List.getElem?_set_ne (Ne.symm q)];exact h1,λz => ?_,λa z => ?_⟩
     · simp [q]at z
       exact((h2 z).av less).same hs
     · simp [q]at z
       obtain⟨r1,r2⟩:=h3 a z;refine⟨r1,?_⟩;cases d' with
       |lst xs=>obtain⟨vs',q1,q2⟩:=r2;exact⟨vs',hs _ _ q1,(q2.av less).same hs⟩
       |obj c ks xs=>obtain⟨dx,vs',q1,q0,q2⟩:=r2;exact⟨dx,vs',hs _ _ q1,q0,(q2.av less).same hs⟩
       |dct ks xs=>obtain⟨vs',q1,q0,q2⟩:=r2;exact⟨vs',hs _ _ q1,q0,(q2.av less).same hs⟩
       |dtt ks xs=>obtain⟨vs',q1,q0,q2⟩:=r2;exact⟨vs',hs _ _ q1,q0,(q2.av less).same hs⟩
       |_=>exact r2
theorem ER.put{i:Nat}{a:Addr}{d d':D}(E:ER G ow H0 av A σ H δ)(hi:A i=some a)(hd:δ[i]? = some (some d))(hk:∀b o,b≠a->H b=some o->H' b=some o)(hl:H' a≠none)(ho:Own G.1 (AV av A) H' d' a) :
 ER G ow H0 av A σ H' (δ.set i (some d')):=by
 have kk:∀b o,¬AV av A b->H b=some o->H' b=some o:=λb o n e=>hk b o (λz=>n (.inr ⟨i,by rw [z];exact hi⟩)) e
 refine⟨λb o e=>hk b o (λz => ?_) (E.same b o e),E.avd,E.fr,E.inj,λj b e => ?_,E.dom,E.dom',by simp [E.len],E.pin,E.kept,λj d'' e => ?_⟩
 · rw [z,E.fr i a hi]at e;cases e
 · by_cases q:b=a
   · subst q;exact hl
   · have:=E.live j b e
     cases e':H b with
     |none=>exact absurd e' this
     |some o=>rw [hk b o q e'];exact λz=>by cases z
 · rcases ZcB e with⟨rfl,rfl,hl'⟩|⟨q,e'⟩
   · obtain⟨v,h1,_,h3⟩:=E.var j d hd
     obtain⟨r1,_⟩:=h3 a hi
     exact⟨v,h1,λz=>(by rw [hi]at z;cases z),λb z=>by
      rw [hi]at z;cases z;exact⟨r1,ho⟩⟩
   · obtain⟨v',h1,h2,h3⟩:=E.var j d'' e'
     refine⟨v',h1,λz=>(h2 z).ext kk,λb z => ?_⟩;obtain⟨r1,r2⟩:=h3 b z;have nb:b≠a:=λw=>q (E.inj j i a (by rw [<-w];exact z) hi)
     refine⟨r1,?_⟩;cases d'' with
     |lst xs=>obtain⟨vs,q1,q2⟩:=r2;exact⟨vs,hk _ _ nb q1,q2.ext kk⟩
     |obj c ks xs=>obtain⟨dx,vs,q1,q0,q2⟩:=r2;exact⟨dx,vs,hk _ _ nb q1,q0,q2.ext kk⟩
     |dct ks xs=>obtain⟨vs,q1,q0,q2⟩:=r2;exact⟨vs,hk _ _ nb q1,q0,q2.ext kk⟩
     |dtt ks xs=>obtain⟨vs,q1,q0,q2⟩:=r2;exact⟨vs,hk _ _ nb q1,q0,q2.ext kk⟩
     |_=>exact r2
theorem ER.freeze(i:Nat)(E:ER G ow H0 av A σ H δ)(hw:∀j,j∈ow1 ↔ j∈ow/\j≠i)(hn:G.2 i=none):ER G ow1 H0 av (λj=>if j=i then none else A j) σ H δ:=by
 have less:∀b,AV av (λj=>if j=i then none else A j) b->AV av A b:=λb z=>by
  rcases z with z|⟨j,z⟩
  · exact .inl z
  · by_cases e:j=i
    · simp [e]at z
    · simp [e]at z;exact .inr ⟨j,z⟩
 refine⟨E.same,E.avd,λj a e => ?_,λj k a e1 e2 => ?_,λj a e => ?_,λj e => ?_,λj hj => ?_,E.len,λj a e=>(by
  have q:j≠i:=λz=>by rw [z,hn]at e;cases e
  simp only [q,if_false];exact E.pin j a e),E.kept,λj d' e => ?_⟩
 · by_cases q:j=i
   · simp [q]at e
   · simp [q]at e;exact E.fr j a e
 · by_cases q:j=i
   · simp [q]at e1
   · by_cases q2:k=i
     · simp [q2]at e2
     · simp [q]at e1;simp [q2]at e2;exact E.inj j k a e1 e2
 · by_cases q:j=i
   · simp [q]at e
   · simp [q]at e;exact E.live j a e
 · by_cases q:j=i
   · simp [q]at e
   · simp [q]at e;exact(hw j).mpr ⟨E.dom j e,q⟩
 · obtain⟨h1,h2⟩:=(hw j).mp hj
   simp [h2];exact E.dom' j h1
 · obtain⟨v',h1,h2,h3⟩:=E.var j d' e
   refine⟨v',h1,λz => ?_,λa z => ?_⟩
   · by_cases q:j=i
     · subst q
       cases hA:A j with
       |none=>exact(h2 hA).av λb z => .inl (less b z)
       |some a=>
        obtain⟨rfl,r2⟩:=h3 a hA
        have na:¬AV av (λk=>if k=j then none else A k) a:=λz=>by
         rcases z with z|⟨k,z⟩
         · exact E.avd a z (E.fr j a hA)
         · by_cases qk:k=j
           · simp [qk]at z
           · simp [qk]at z;exact qk (E.inj k j a z hA)
        cases d' with
        |lst xs=>obtain⟨vs,q1,q2⟩:=r2;unfold Rep;exact⟨a,vs,rfl,λz=>(na z).elim,SqL.of q1,q2.av λb z => .inl (less b z)⟩
        |obj c ks xs=>obtain⟨dx,vs,q1,q0,q2⟩:=r2;unfold Rep;exact⟨a,dx,vs,rfl,na,q1,q0,q2.av λb z => .inl (less b z)⟩
        |dct ks xs=>obtain⟨vs,q1,q0,q2⟩:=r2;unfold Rep;exact⟨a,vs,rfl,na,q1,q0,q2.av λb z => .inl (less b z)⟩
        |dtt ks xs=>obtain⟨vs,q1,q0,q2⟩:=r2;unfold Rep;exact⟨a,vs,rfl,na,q1,q0,q2.av λb z => .inl (less b z)⟩
        |_=>exact False.elim r2
     · simp [q]at z
       exact(h2 z).av λb z => .inl (less b z)
   · by_cases q:j=i
     · simp [q]at z
     · simp [q]at z
       obtain⟨r1,r2⟩:=h3 a z;refine⟨r1,?_⟩;cases d' with
       |lst xs=>obtain⟨vs,q1,q2⟩:=r2;exact⟨vs,q1,q2.av λb z => .inl (less b z)⟩
       |obj c ks xs=>obtain⟨dx,vs,q1,q0,q2⟩:=r2;exact⟨dx,vs,q1,q0,q2.av λb z => .inl (less b z)⟩
       |dct ks xs=>obtain⟨vs,q1,q0,q2⟩:=r2;exact⟨vs,q1,q0,q2.av λb z => .inl (less b z)⟩
       |dtt ks xs=>obtain⟨vs,q1,q0,q2⟩:=r2;exact⟨vs,q1,q0,q2.av λb z => .inl (less b z)⟩
       |_=>exact r2
open Classical in
noncomputable def cut(A:Nat->Option Addr)(H:Hp):Hp:=λb=>if ∃i,A i=some b then none else H b
theorem ZbM{b:Addr}{o:HO}(h:cut A H b=some o):H b=some o/\¬∃i,A i=some b:=by
 unfold cut at h
 by_cases e:∃i,A i=some b
 · rw [if_pos e]at h;cases h
 · rw [if_neg e]at h;exact⟨h,e⟩
theorem UR{b:Addr}(e:¬∃i,A i=some b):cut A H b=H b:=by
 unfold cut;rw [if_neg e]
theorem ER.cut(E:ER G ow H0 av A σ H δ):ER G ow (DL.cut A H) av A σ H δ:=by
 refine⟨λb o e=>(ZbM e).1,λa z => ?_,λi a e => ?_,E.inj,E.live,E.dom,E.dom',E.len,E.pin,E.kept,E.var⟩
 · rw [UR λ⟨i,e⟩=>E.avd a z (E.fr i a e)]
   exact E.avH a z
 · unfold DL.cut
   rw [if_pos ⟨i,e⟩]
theorem ER.sub0(E:ER G ow H0 av A σ H δ):Same H0 (DL.cut A H):=λb o e=>by
 rw [UR λ⟨i,z⟩=>by rw [E.fr i b z]at e;cases e];exact E.same b o e
theorem ER.uncut{A':Nat->Option Addr}{σ':L2.St}{δ':Env}(E:ER G ow H0 av A σ H δ)(E':ER G ow1 (DL.cut A H) av A' σ' H' δ'):ER G ow1 H0 av A' σ' H' δ':=
 ⟨E.sub0.trans E'.same,E.avd,λi a e=>E.sub0.free (E'.fr i a e),E'.inj,E'.live,E'.dom,E'.dom',E'.len,E'.pin,E'.kept,E'.var⟩
def sNext(δ:Env):Option Out:=some (.nx δ)
theorem ZH:VS G ow ow owB owC tNext sNext:=λH0 av A σ H δ E o e De k=>by
 cases e;exact k A σ H E
def Zi(φ ψ:Env->Option Out)(δ:Env):Option Out:=match φ δ with
 |some (.nx δ')=>ψ δ'
 |r=>r
theorem Zo{t u:TS}{φ ψ:Env->Option Out}(h1:VS G ow ow1 owB owC t φ)(h2:VS G ow1 owN owB owC u ψ):VS G ow owN owB owC (J5 t u) (Zi φ ψ):=λH0 av A σ H δ E o e De k=>by
 unfold Zi at e;cases he:φ δ with
 |none=>rw [he]at e;cases e
 |some o1=>
  rw [he]at e;refine h1 H0 av A σ H δ E o1 he _ ?_;cases o1 with
  |nx δ'=>exact λA' σ' H' E'=>h2 H0 av A' σ' H' δ' E' o e De k
  |rt d=>cases e;exact k
  |bk δ'=>cases e;exact k
  |ct δ'=>cases e;exact k
def sIf(τ:Env->Option Bool)(φ ψ:Env->Option Out)(δ:Env):Option Out:=match τ δ with
 |some true=>φ δ
 |some false=>ψ δ
 |none=>none
theorem ZI{c:TT}{t u:TS}{τ:Env->Option Bool}{φ ψ:Env->Option Out}(hc:VT G ow c τ)(h1:VS G ow owN owB owC t φ)(h2:VS G ow owN owB owC u ψ):VS G ow owN owB owC (ZlS c t u) (sIf τ φ ψ):=λH0 av A σ H δ E o e De k=>by
 unfold sIf at e;cases he:τ δ with
 |none=>rw [he]at e;cases e
 |some b=>
  rw [he]at e;refine hc H0 av A σ H δ E b he _ λH' s => ?_
  cases b with
  |true=>exact VZ (h1 H0 av A σ H' δ (E.mono s) o e De k)
  |false=>exact Ue (h2 H0 av A σ H' δ (E.mono s) o e De k)
def Zp(ε:Env->Option D)(δ:Env):Option Out:=match ε δ with
 |some d=>some (.rt d)
 |none=>none
theorem Zw{te:TE}{q:Ql}{ε:Env->Option D}(h:VE G ow te q ε):VS G ow owN owB owC (J6 te) (Zp ε):=λH0 av A σ H δ E o e De k=>by
 unfold Zp at e;cases he:ε δ with
 |none=>rw [he]at e;cases e
 |some d=>
  rw [he]at e;cases e;exact h H0 av A σ H δ E d he _ λv H' s r=>k v H' (E.same.trans s) r.any
def YY(_:Env):Option Out:=some (.rt .non)
def sNever(_:Env):Option Out:=none
theorem Qo{ts:TS}:VS G ow owN owB owC ts sNever:=λH0 av A σ H δ E o e De k=>by cases e
def Zt(i:Nat)(ε:Env->Option D)(δ:Env):Option Out:=match ε δ with
 |some d=>some (.nx (δ.set i (some d)))
 |none=>none
theorem Za5{i:Nat}(h1:sub ow1 ow=true)(h2:ow1.contains i=false)(h3:sub ow (i::ow1)=true):∀j,j∈ow1 ↔ j∈ow/\j≠i:=λj=>by
 constructor
 · intro h
   refine⟨ZbH h1 j h,λe => ?_⟩;subst e;have:j∉ow1:=by simpa using h2
   exact this h
 · rintro⟨h,n⟩
   rcases List.mem_cons.mp (ZbH h3 j h)with e|e
   · exact absurd e n
   · exact e
theorem ZfK{i:Nat}(h1:sub ow1 (i::ow)=true)(h2:ow1.contains i=true)(h3:sub ow ow1=true):∀j,j∈ow1 ↔ j∈ow\/j=i:=λj=>by
 constructor
 · intro h
   rcases List.mem_cons.mp (ZbH h1 j h)with e|e
   · exact .inr e
   · exact .inl e
 · rintro(h|rfl)
   · exact ZbH h3 j h
   · simpa using h2
theorem Z6{te:TE}{ε:Env->Option D}(i:Nat)(h:VE G ow te .cl ε)(hn:G.2 i=none:=by rfl)(h1:sub owN ow=true:=by rfl)(h2:owN.contains i=false:=by rfl)(h3:sub ow (i::owN)=true:=by rfl):VS G ow owN owB owC (Qi te (Uw i)) (Zt i ε):=λH0 av A σ H δ E o e De k=>by
 unfold Zt at e;cases he:ε δ with
 |none=>rw [he]at e;cases e
 |some d=>
  rw [he]at e;cases e;exact h H0 av A σ H δ E d he _ λv H' s r=>k _ _ H' ((E.mono s).set (RepT.r r) (Za5 h1 h2 h3) hn)
theorem Jg{te:TE}{ε:Env->Option D}(i:Nat)(h:VF G ow te ε)(hn:G.2 i=none:=by rfl)(h1:sub owN (i::ow)=true:=by rfl)(h2:owN.contains i=true:=by rfl)(h3:sub ow owN=true:=by rfl):VS G ow owN owB owC (Qi te (Uw i)) (Zt i ε):=λH0 av A σ H δ E o e De k=>by
 unfold Zt at e;cases he:ε δ with
 |none=>rw [he]at e;cases e
 |some d=>
  rw [he]at e;cases e;refine h H0 av A σ H δ E d he _ λp vs xs H1 s hp l hd => ?_
  subst hd;exact k _ _ _ ((E.mono s).own hp l (ZfK h1 h2 h3) hn)
def ZV(ε:Env->Option D)(δ:Env):Option Out:=match ε δ with
 |some _=>some (.nx δ)
 |none=>none
theorem Xx{te:TE}{q:Ql}{ε:Env->Option D}(h:VE G ow te q ε):VS G ow ow owB owC (UI te) (ZV ε):=λH0 av A σ H δ E o e De k=>by
 unfold ZV at e;cases he:ε δ with
 |none=>rw [he]at e;cases e
 |some d=>
  rw [he]at e;cases e;exact h H0 av A σ H δ E d he _ λv H' s r=>k A σ H' (E.mono s)
def V1(i:Nat)(ε:Env->Option D)(δ:Env):Option Out:=match Za i δ with
 |some (.lst xs)=>match ε δ with
  |some d=>if xs.length<sizeLine then some (.nx (δ.set i (some (.lst (xs++[d])))))else none
  |none=>none
 |_=>none
theorem Zd6{K:PySem.W.Frag}{te:TE}{ε:Env->Option D}(i:Nat)(hi:ow.contains i=true)(h:VE G ow te .cl ε):VS G ow ow owB owC (UI (tBM K "list" rAppend (Uu i) (Vj te tNil))) (V1 i ε):=λH0 av A σ H δ E o e De k=>by
 unfold V1 at e;cases hv:Za i δ with
 |none=>rw [hv]at e;cases e
 |some x=>
  rw [hv]at e;cases x<;>first|(cases e;done)|skip
  rename_i xs;dsimp only at e;cases he:ε δ with
  |none=>rw [he]at e;cases e
  |some d=>
   rw [he]at e;dsimp only at e
   by_cases hz:xs.length<sizeLine
   · rw [if_pos hz]at e
     cases e;have hi':i∈ow:=by simpa using hi
     cases hA:A i with
     |none=>exact absurd hA (E.dom' i hi')
     |some a=>
      obtain⟨v,h1,_,h3⟩:=E.var i _ (Vk hv);obtain⟨rfl,vs,q1,q2⟩:=h3 a hA;refine⟨_,h1,.inl ⟨rfl,vs,SqL.of q1⟩,h H0 av A σ H δ E d he _ λv H' s r => ?_⟩;have E':=E.mono s;have q1':=s _ _ q1;refine⟨a,vs,v,rfl,rfl,q1',by rw [<-q2.length];exact hz,k A σ _ (E'.put hA (Vk hv) (λb o hb e=>by rw [Zx hb];exact e) (by rw [Yo];exact λz=>by cases z) ⟨_,Yo,?_⟩)⟩
      have ex:∀b o,¬AV av A b->H' b=some o->upd H' a (.lst (vs++[v])) b=some o:=λb o n e=>by
       rw [Zx λz=>n (.inr ⟨i,by rw [z];exact hA⟩)];exact e
      exact((q2.same s).append (.cons (RepT.r r) .nil)).ext ex
   · rw [if_neg hz]at e;cases e
theorem VS.frz{t:TS}{φ:Env->Option Out}(i:Nat)(h:VS G ow1 owN owB owC t φ)(hn:G.2 i=none:=by rfl)(h1:sub ow1 ow=true:=by rfl)(h2:ow1.contains i=false:=by rfl)(h3:sub ow (i::ow1)=true:=by rfl):VS G ow owN owB owC t φ:=λH0 av A σ H δ E o e De k=>
 h H0 av _ σ H δ (E.freeze i (Za5 h1 h2 h3) hn) o e De k
def Zz(i:Nat)(d:D)(δ:Env):Option Env:=some (δ.set i (some d))
theorem YN(i:Nat)(hi:ow.contains i=false:=by rfl)(hn:G.2 i=none:=by rfl):VG G ow ow (Uw i) (Zz i):=λH0 av A σ H δ E d v r δ' e Q k=>by
 cases e
 exact k _ _ H (Same.refl H) (E.set r (λj=>by
  have:i∉ow:=by simpa using hi
  exact⟨λh=>⟨h,λz=>this (z▸h)⟩,λh=>h.1⟩) hn)
def VGs(G:Cn)(ow ow':List Nat)(g:TGs)(γ:List D->Env->Option Env):Prop:=
 ∀H0 av A σ H δ,ER G ow H0 av A σ H δ->∀ds vs,RepL G.1 (AV av A) H ds vs->∀δ',γ ds δ=some δ'->∀Q:L2.St->Hp->Prop,(∀A' σ' H',Same H H'->(∀b,AV av A' b->AV av A b)->ER G ow' H0 av A' σ' H' δ'->Q σ' H')->g vs σ H Q
def gsNil(ds:List D)(δ:Env):Option Env:=match ds with
 | []=>some δ
 |_=>none
theorem Zep:VGs G ow ow gNil gsNil:=λH0 av A σ H δ E ds vs r δ' e Q k=>by
 cases ds with
 |nil=>cases e;exact⟨r.nil_of,k A σ H (Same.refl H) (λ_ z=>z) E⟩
 |cons _ _=>cases e
def Vb(i:Nat)(γs:List D->Env->Option Env)(ds:List D)(δ:Env):Option Env:=match ds with
 |d::r=>γs r (δ.set i (some d))
 | []=>none
theorem ZaW{gs:TGs}{γs:List D->Env->Option Env}(i:Nat)(hi:ow.contains i=false)(hn:G.2 i=none)(h:VGs G ow ow gs γs):VGs G ow ow (ZhP (Uw i) gs) (Vb i γs):=λH0 av A σ H δ E ds vs r δ' e Q k=>by
 cases ds with
 |nil=>cases e
 |cons d ds=>
  obtain⟨v,vr,rfl,r1,r2⟩:=r.uncons;refine⟨v,vr,rfl,?_⟩
  have less:∀b,AV av (λj=>if j=i then none else A j) b->AV av A b:=λb z=>by
   rcases z with z|⟨j,z⟩
   · exact .inl z
   · by_cases e:j=i
     · simp [e]at z
     · simp [e]at z;exact .inr ⟨j,z⟩
  have E1:ER G ow H0 av (λj=>if j=i then none else A j) (σ.set i (some v)) H (δ.set i (some d)):=E.set r1 (λj=>by
   have:i∉ow:=by simpa using hi
   exact⟨λh=>⟨h,λz=>this (z▸h)⟩,λh=>h.1⟩) hn
  exact h H0 av _ _ H _ E1 ds vr (r2.av λb z => .inl (less b z)) δ' e Q λA' σ' H' s l E'=>k A' σ' H' s (λb z=>less b (l b z)) E'
def Uz(n:Nat)(γs:List D->Env->Option Env)(d:D)(δ:Env):Option Env:=match d with
 | .tup ds=>if ds.length=n then γs ds δ else none
 |_=>none
theorem Zgt{K:PySem.W.Frag}{n:Nat}{gs:TGs}{γs:List D->Env->Option Env}(h:VGs G ow ow gs γs):VG G ow ow (ZjS K n gs) (Uz n γs):=λH0 av A σ H δ E d v r δ' e Q k=>by
 cases d<;>first|(cases e;done)|skip
 rename_i ds;dsimp only [Uz]at e
 by_cases hz:ds.length=n
 · rw [if_pos hz]at e
   unfold Rep at r;obtain⟨a,vs,rfl,_,rd,l⟩:=r;exact⟨a,vs,rfl,SqT.of rd,by rw [<-l.length];exact hz,h H0 av A σ H δ E ds vs l δ' e Q λA' σ' H' s _ E'=>k A' σ' H' s E'⟩
 · rw [if_neg hz]at e;cases e
def US(cA:Kn)(iv:Addr->Prop)(J:It)(xs:List D)(H0:Hp):Prop:=∀H,Same H0 H ->
 (∀i,i<xs.length->J.go i H) /\
 (∀(i:Nat)x v H',xs[i]? = some x->J.yld i H v H'->Same H H'/\∀av':Addr->Prop,(∀b,av' b->H b≠none)->(∀b,av' b->iv b\/H0 b=none)->Rep cA av' H' x v) /\
 (∀i,xs.length<=i->J.stop i H)
def VI(G:Cn)(ow:List Nat)(wi:TI)(ι:Env->Option (List D)):Prop:=
 ∀H0 av A σ H δ,ER G ow H0 av A σ H δ->∀xs,ι δ=some xs->∀R:It->Hp->Prop,(∀J H1,Same H H1->US G.1 (AV av A) J xs (DL.cut A H1)->R J H1)->wi σ H R
def Xp(γ:D->Env->Option Env)(φ:Env->Option Out):List D->Env->Option Out
 | [],δ=>some (.nx δ)
 |x::r,δ=>match γ x δ with
  |none=>none
  |some δ1=>match φ δ1 with
   |none=>none
   |some (.nx δ2)=>Xp γ φ r δ2
   |some (.ct δ2)=>Xp γ φ r δ2
   |some (.bk δ2)=>some (.nx δ2)
   |some (.rt d)=>some (.rt d)
def XO(ι:Env->Option (List D))(γ:D->Env->Option Env)(φ:Env->Option Out)(δ:Env):Option Out:=match ι δ with
 |some xs=>Xp γ φ xs δ
 |none=>none
theorem Qp{wi:TI}{g:TG}{tb:TS}{ι:Env->Option (List D)}{γ:D->Env->Option Env}{φ:Env->Option Out}(hi:VI G ow wi ι)(hg:VG G ow ow g γ)(hb:VS G ow ow ow ow tb φ):VS G ow ow owB owC (ZlT wi g tb) (XO ι γ φ):=λH0 av A σ H δ E o e De k=>by
 unfold XO at e;cases he:ι δ with
 |none=>rw [he]at e;cases e
 |some xs=>
  rw [he]at e;have e:Xp γ φ xs δ=some o:=e;refine hi H0 av A σ H δ E xs he _ λJ H1 s1 W => ?_
  have E1:=E.mono s1;refine⟨λi m σ' H'=>m=xs.length-i/\i<=xs.length/\∃A' δ',ER G ow (DL.cut A H1) av A' σ' H' δ'/\Xp γ φ (xs.drop i) δ'=some o,⟨xs.length,by simp,Nat.zero_le _,A,δ,E1.cut,e⟩,?_⟩
  rintro i m σ' H' ⟨rfl,hle,A',δ',E',e'⟩
  obtain⟨w1,w2,w3⟩:=W H' E'.same
  by_cases hlt:i<xs.length
  · refine .inr ⟨w1 i hlt,λσ2 H2=>∃A2 δ2,ER G ow (DL.cut A H1) av A2 σ2 H2 δ2/\Xp γ φ (xs.drop (i+1)) δ2=some o,λσ2 H2 ⟨A2,δ2,E2,e2⟩=>⟨xs.length-(i+1),by omega,rfl,hlt,A2,δ2,E2,e2⟩,λv H2 y => ?_⟩
    have hx:xs[i]? = some xs[i]:=List.getElem?_eq_getElem hlt;obtain⟨s2,rep⟩:=w2 i _ v H2 hx y;have E2:=E'.mono s2
    have rep':Rep G.1 (AV av A') H2 xs[i] v:=rep _ E'.avl λb z=>by
     rcases z with z|⟨j,z⟩
     · exact .inl (.inl z)
     · exact .inr (E'.fr j b z)
    rw [List.drop_eq_getElem_cons hlt]at e';unfold Xp at e';cases hγ:γ xs[i] δ' with
    |none=>rw [hγ]at e';cases e'
    |some δ1=>
     rw [hγ]at e';dsimp only at e';refine hg _ av A' σ' H2 δ' E2 _ v rep' δ1 hγ _ λA3 σ3 H3 s3 E3 => ?_
     cases hφ:φ δ1 with
     |none=>rw [hφ]at e';cases e'
     |some o1=>
      rw [hφ]at e';refine hb _ av A3 σ3 H3 δ1 E3 o1 hφ _ ?_;cases o1 with
      |nx δ2=>exact λA4 σ4 H4 E4=>⟨A4,δ2,E4,e'⟩
      |ct δ2=>exact λA4 σ4 H4 E4=>⟨A4,δ2,E4,e'⟩
      |bk δ2=>cases e';exact λA4 σ4 H4 E4=>k A4 σ4 H4 (E1.uncut E4)
      |rt d=>cases e';exact λv H4 s4 r4=>k v H4 (E1.sub0.trans s4) r4
  · have ei:i=xs.length:=by omega
    subst ei;rw [List.drop_length]at e';cases e';exact .inl ⟨w3 _ (Nat.le_refl _),k A' σ' H' (E1.uncut E')⟩
open Classical in
end
end DL
namespace DL
open PySem PySem.Spec L2
section
variable{cA:Kn}{G:Cn}{ow owN owB owC:List Nat}
def Z0(ε:Env->Option D)(δ:Env):Option (List D):=match ε δ with
 |some (.lst xs)=>some xs
 |some (.tup xs)=>some xs
 |some (.str cs)=>some (cs.map λc => .str [c])
 |_=>none
theorem Rep.cut{av:Addr->Prop}{A:Nat->Option Addr}{H:Hp}{d:D}{v:V}(h:Rep cA (AV av A) H d v):Rep cA (AV av A) (DL.cut A H) d v:=h.ext λb o n e=>by
 rw [UR λ⟨i,z⟩=>n (.inr ⟨i,z⟩)];exact e
theorem RepL.cut{av:Addr->Prop}{A:Nat->Option Addr}{H:Hp}{d:List D}{v:List V}(h:RepL cA (AV av A) H d v):RepL cA (AV av A) (DL.cut A H) d v:=h.ext λb o n e=>by
 rw [UR λ⟨i,z⟩=>n (.inr ⟨i,z⟩)];exact e
theorem ZdO{iv:Addr->Prop}{H0:Hp}{a:Addr}{vs:List V}{xs:List D}(rd:SqL cA.K H0 a vs)(l:RepL cA iv H0 xs vs):US cA iv (Itl cA.K a) xs H0:=λH s=>by
 have rd':SqL cA.K H a vs:=s.seq rd;refine⟨λi hi => ?_,λi x v H' hx y => ?_,λi hi=>⟨vs,rd',by rw [<-l.length];exact hi⟩⟩
 · obtain⟨v,hv,_⟩:=l.get (List.getElem?_eq_getElem hi)
   exact⟨vs,v,rd',hv⟩
 · obtain⟨rfl,hy⟩:=y
   obtain⟨v',hv,r⟩:=l.get hx;rw [hy vs rd']at hv;cases hv;exact⟨Same.refl _,λav' _ h2=>(r.av h2).same s⟩
theorem Ze2{K:PySem.W.Frag}{iv:Addr->Prop}{H0:Hp}{a:Addr}{vs:List V}{xs:List D}(rd:H0 a=some (.tup vs))(l:RepL cA iv H0 xs vs):US cA iv (Itt K a) xs H0:=λH s=>by
 have rd':SqT K H a vs:=SqT.of (s _ _ rd);refine⟨λi hi => ?_,λi x v H' hx y => ?_,λi hi=>⟨vs,rd',by rw [<-l.length];exact hi⟩⟩
 · obtain⟨v,hv,_⟩:=l.get (List.getElem?_eq_getElem hi)
   exact⟨vs,v,rd',hv⟩
 · obtain⟨rfl,hy⟩:=y
   obtain⟨v',hv,r⟩:=l.get hx;rw [hy vs rd']at hv;cases hv;exact⟨Same.refl _,λav' _ h2=>(r.av h2).same s⟩
theorem Ze3{iv:Addr->Prop}{H0:Hp}{cs:List Nat}:US cA iv (Its cs) (cs.map λc => .str [c]) H0:=λH s=>by
 refine⟨λi hi=>(show i<cs.length by simpa using hi),λi x v H' hx y => ?_,λi hi=>(show cs.length<=i by simpa using hi)⟩;obtain⟨rfl,c,hc,rfl⟩:=y;rw [List.getElem?_map,hc]at hx;cases hx;exact⟨Same.refl _,λ_ _ _=>rfl⟩
theorem Xq{tl:TE}{ε:Env->Option D}(h:VE G ow tl .cl ε):VI G ow (ZjX G.1.K tl) (Z0 ε):=λH0 av A σ H δ E xs e R k=>by
 unfold Z0 at e;cases he:ε δ with
 |none=>rw [he]at e;cases e
 |some d=>
  rw [he]at e;refine h H0 av A σ H δ E d he _ λv H1 s r => ?_
  cases d<;>first|(cases e;done)|skip
  · cases e
    exact .inr (.inr ⟨_,r,k _ H1 s Ze3⟩)
  · cases e
    obtain⟨a,vs,rfl,na,rd,l⟩:=r;exact .inl ⟨a,vs,rfl,rd,k _ H1 s (ZdO (Zd5 na rd λb o n e=>by rw [UR λ⟨i,z⟩=>n (.inr ⟨i,z⟩)];exact e) l.cut)⟩
  · cases e
    obtain⟨a,vs,rfl,na,rd,l⟩:=r;exact .inr (.inl ⟨a,vs,rfl,SqT.of rd,k _ H1 s (Ze2 (by rw [UR λ⟨i,z⟩=>na (.inr ⟨i,z⟩)];exact rd) l.cut)⟩)
def Ym(lo c:Int)(n:Nat):List D:=(List.range n).map λk => .int (lo+(k:Nat)*c)
theorem Ze4{iv:Addr->Prop}{H0:Hp}{lo:Int}{n:Nat}:US cA iv (Itr lo n) (Ym lo 1 n) H0:=λH s=>by
 refine⟨λi hi=>(show i<n by simpa [Ym]using hi),λi x v H' hx y => ?_,λi hi=>(show n<=i by simpa [Ym]using hi)⟩;obtain⟨rfl,rfl⟩:=y;have hi:i<n:=by have:=(List.getElem?_eq_some_iff.mp hx).1;simpa [Ym]using this
 have:x = .int (lo+i):=by
  unfold Ym at hx;rw [List.getElem?_map,List.getElem?_range hi]at hx;have:=Option.some.inj hx;rw [<-this];show D.int (lo+(i:Int)*1)=_;rw [Int.mul_one]
 subst this;exact⟨Same.refl _,λ_ _ _=>rfl⟩
def Xr(α:Env->Option (List D))(δ:Env):Option (List D):=match α δ with
 |some [.int j]=>if -(2 ^ 62)<=j/\j<2 ^ 62 then some (Ym 0 1 j.toNat)else none
 |some [.int i,.int j]=>if -(2 ^ 62)<=i/\i<2 ^ 62 /\ -(2 ^ 62)<=j/\j<2 ^ 62 then some (Ym i 1 (j-i).toNat)else none
 |some [.int i,.int j,.int c]=>if c≠0/\c.natAbs<1073741824/\Builtin.Range.small i j c=true then some (Ym i c (Builtin.Range.rangeSize i j c).toNat)else none
 |_=>none
theorem ql1{av:Addr->Prop}{A:Nat->Option Addr}{H:Hp}{q:Ql}{x:Int}{vs:List V}(h:RepQL cA av A H q [.int x] vs):vs=[.int x]:=by
 obtain⟨v,r,rfl,h1,h2⟩:=h;have:=h1.any;cases(show v=_ from this);cases(show r=[]from h2);rfl
theorem UT{ta:TA}{q:Ql}{a:Env->Option (List D)}(h:VA G ow ta q a)(hl:∀δ ds,a δ=some ds->ds.length=1):VI G ow (ZhQ ta) (Xr a):=λH0 av A σ H δ E xs e R k=>by
 unfold Xr at e;cases he:a δ with
 |none=>rw [he]at e;cases e
 |some ds=>
  rw [he]at e;refine h H0 av A σ H δ E ds he _ λvs H1 s r => ?_
  have hln:=hl δ ds he
  split at e
  · rename_i j he2
    cases he2
    by_cases hz : -(2 ^ 62)<=j/\j<2 ^ 62
    · rw [if_pos hz]at e
      cases e;exact⟨j,ql1 r,hz.1,hz.2,k _ H1 s Ze4⟩
    · rw [if_neg hz]at e;cases e
  · rename_i he2;cases he2;simp at hln
  · rename_i he2;cases he2;simp at hln
  · cases e
theorem Zhd{δ:Env}{ds:List D}(h:eNil δ=some ds):ds.length=0:=by cases h;rfl
theorem ZfL{a:Env->Option D}{r:Env->Option (List D)}{n:Nat}(hr:∀δ ds,r δ=some ds->ds.length=n):∀δ ds,Zb a r δ=some ds->ds.length=n+1:=λδ ds h=>by
 unfold Zb at h;cases ha:a δ with
 |none=>rw [ha]at h;cases h
 |some x=>
  rw [ha]at h;cases hr':r δ with
  |none=>rw [hr']at h;cases h
  |some xs=>rw [hr']at h;cases h;rw [List.length_cons,hr δ xs hr']
theorem UU{a:Env->Option D}:∀δ ds,Zb a eNil δ=some ds->ds.length=1:=ZfL λ_ _=>Zhd
def Xs(n:Nat)(δ:Env)(js:List Nat):Env:=List.replicate n none++js.map λj=>(δ[j]?).getD none
def Yx(γ:D->Env->Option Env)(τ:Env->Option Bool)(ε:Env->Option D)(δ0:Env):List D->Option (List D)
 | []=>some []
 |x::r=>match γ x δ0 with
  |none=>none
  |some δ1=>match τ δ1 with
   |none=>none
   |some false=>Yx γ τ ε δ0 r
   |some true=>match ε δ1 with
    |none=>none
    |some y=>match Yx γ τ ε δ0 r with
     |none=>none
     |some ys=>some (y::ys)
def ZX(ι:Env->Option (List D))(γ:D->Env->Option Env)(τ:Env->Option Bool)(ε:Env->Option D)(n:Nat)(js:List Nat)(δ:Env):Option D:=match ι δ with
 |none=>none
 |some xs=>match Yx γ τ ε (Xs n δ js) xs with
  |none=>none
  |some ys=>if ys.length<=sizeLine then some (.lst ys)else none
theorem ER.blk{H0 H:Hp}{av:Addr->Prop}{A:Nat->Option Addr}{σ:L2.St}{δ:Env}(n:Nat)(js:List Nat)(hjs:js.all (λj => !ow.contains j)=true)(E:ER G ow H0 av A σ H δ) :
 ER ⟨G.1,λ_=>none⟩ [] H (AV av A) (λ_=>none) (L2.blk n σ js) H (Xs n δ js):=by
 refine⟨Same.refl H,E.avl,λ_ _ z=>(by cases z),λ_ _ _ z=>(by cases z),λ_ _ z=>(by cases z),λ_ z=>absurd rfl z,λ_ z=>(by cases z),?_,λ_ _ z=>(by cases z),λ_ _ z=>(by cases z),λi d e => ?_⟩
 · unfold L2.blk Xs pick
   rw [List.length_append,List.length_append,List.length_replicate,List.length_replicate,List.length_map,List.length_map]
 · unfold Xs at e
   by_cases hi:i<n
   · rw [List.getElem?_append_left (by simpa using hi),List.getElem?_replicate,if_pos hi]at e
     cases e
   · rw [List.getElem?_append_right (by simpa using hi),List.length_replicate,List.getElem?_map]at e
     cases hj:js[i-n]? with
     |none=>rw [hj]at e;cases e
     |some j=>
      rw [hj]at e;have e':(δ[j]?).getD none=some d:=Option.some.inj e
      have e2:δ[j]? = some (some d):=by
       cases q:δ[j]? with
       |none=>rw [q]at e';cases e'
       |some z=>rw [q]at e';exact congrArg some e'
      obtain⟨v,h1,h2,_⟩:=E.var j d e2
      have hjo:A j=none:=by
       cases q:A j with
       |none=>rfl
       |some a=>
        have h3:=E.dom j (by rw [q];exact λz=>by cases z);have h4:=List.all_eq_true.mp hjs j (List.mem_of_getElem? hj);simp at h4;exact absurd h3 h4
      refine⟨v,?_,λ_=>(h2 hjo).av λb z => ?_,λ_ z=>(by cases z)⟩
      · unfold L2.blk pick
        rw [List.getElem?_append_right (by simpa using hi),List.length_replicate,List.getElem?_map,hj];show some ((σ[j]?).getD none)=_;rw [h1];rfl
      · rcases z with z|⟨_,z⟩
        · exact .inl z
        · cases z
theorem Xj {wi:TI} {g:TG} {tt:TT} {te:TE} {n:Nat} {js:List Nat} {ι:Env->Option (List D)} {γ:D->Env->Option Env} {τ:Env->Option Bool} {ε:Env->Option D}
 (hjs:js.all (λj => !ow.contains j)=true) (hi:VI G ow wi ι) (hg:VG ⟨G.1,λ_=>none⟩ [] [] g γ) (ht:VT ⟨G.1,λ_=>none⟩ [] tt τ) (he:VE ⟨G.1,λ_=>none⟩ [] te .cl ε):VF G ow (Q8 wi g tt te n js) (ZX ι γ τ ε n js):=λH0 av A σ H δ E d e Q k=>by
 unfold ZX at e;cases hι:ι δ with
 |none=>rw [hι]at e;cases e
 |some xs=>
  rw [hι]at e;dsimp only at e;cases hc:Yx γ τ ε (Xs n δ js) xs with
  |none=>rw [hc]at e;cases e
  |some full=>
   rw [hc]at e;dsimp only at e
   by_cases hz:full.length<=sizeLine
   · rw [if_pos hz]at e
     have ed:D.lst full=d:=Option.some.inj e;refine hi H0 av A σ H δ E xs hι _ λJ H1 s1 W => ?_
     have E1:=E.mono s1
     refine⟨λi m ys H'=>m=xs.length-i/\i<=xs.length/\Same H1 H'/\∃done rest,RepL G.1 (AV av A) H' done ys/\Yx γ τ ε (Xs n δ js) (xs.drop i)=some rest/\done++rest=full,
      ⟨xs.length,by simp,Nat.zero_le _,Same.refl _,[],full,.nil,hc,rfl⟩,?_⟩
     rintro i m ys H' ⟨rfl,hle,s',done,rest,rl,hr,hf⟩
     have E':=E1.mono s';have sc:Same (DL.cut A H1) H':=λb o z=>s' b o (ZbM z).1
     obtain⟨w1,w2,w3⟩:=W H' sc
     by_cases hlt:i<xs.length
     · refine .inr ⟨w1 i hlt,λv H2 y => ?_⟩
       have hx:xs[i]? = some xs[i]:=List.getElem?_eq_getElem hlt;obtain⟨s2,rep⟩:=w2 i _ v H2 hx y;have rep':Rep G.1 (AV av A) H2 xs[i] v:=rep _ E'.avl λb z => .inl z
       have E2:=E'.mono s2;have EB:ER ⟨G.1,λ_=>none⟩ [] H2 (AV av A) (λ_=>none) (L2.blk n σ js) H2 (Xs n δ js):=E2.blk n js hjs
       have triv:∀(A':Nat->Option Addr){σ':L2.St}{H3:Hp}{δ':Env},ER ⟨G.1,λ_=>none⟩ [] H2 (AV av A) A' σ' H3 δ'->∀b,AV (AV av A) A' b ↔ AV av A b:=λA' {σ' H3 δ'} E3 b=>by
        constructor
        · rintro(z|⟨j,z⟩)
          · exact z
          · have:=E3.dom j (by rw [z];exact λz=>by cases z)
            cases this
        · exact λz => .inl z
       rw [List.drop_eq_getElem_cons hlt]at hr;unfold Yx at hr;cases hγ:γ xs[i] (Xs n δ js)with
       |none=>rw [hγ]at hr;cases hr
       |some δ1=>
        rw [hγ]at hr;dsimp only at hr;refine hg _ _ _ _ H2 _ EB _ v (rep'.av λb z => .inl ((triv _ EB b).mp z)) δ1 hγ _ λA3 σ3 H3 s3 E3 => ?_
        cases hτ:τ δ1 with
        |none=>rw [hτ]at hr;cases hr
        |some c=>
         rw [hτ]at hr;refine ht _ _ A3 σ3 H3 δ1 E3 c hτ _ λH4 s4 => ?_
         have E4:=E3.mono s4;cases c with
         |false=>
          exact Ue ⟨xs.length-(i+1),by omega,rfl,hlt,(s'.trans s2).trans (s3.trans s4),done,rest,rl.same ((s2.trans s3).trans s4),hr,hf⟩
         |true=>
          dsimp only at hr;cases hε:ε δ1 with
          |none=>rw [hε]at hr;cases hr
          |some yd=>
           rw [hε]at hr;dsimp only at hr;cases hr':Yx γ τ ε (Xs n δ js) (xs.drop (i+1))with
           |none=>rw [hr']at hr;cases hr
           |some rest'=>
            rw [hr']at hr;have hrr:yd::rest'=rest:=Option.some.inj hr;subst hrr;refine VZ (he _ _ A3 σ3 H4 δ1 E4 yd hε _ λvy H5 s5 r5 => ?_);have sall:Same H' H5:=((s2.trans s3).trans s4).trans s5;refine⟨?_,xs.length-(i+1),by omega,rfl,hlt,s'.trans sall,done++[yd],rest',(rl.same sall).append (.cons ((RepT.r r5).av λb z => .inl ((triv _ E4 b).mpr z)) .nil),hr',by rw [<-hf];simp⟩
            have:=congrArg List.length hf;rw [List.length_append,List.length_cons]at this;have:=rl.length;omega
     · have ei:i=xs.length:=by omega
       subst ei;rw [List.drop_length]at hr;cases hr;refine .inl ⟨w3 _ (Nat.le_refl _),λp hp=>k p ys full H' (s1.trans s') hp (by rw [<-hf,List.append_nil];exact rl) ed.symm⟩
   · rw [if_neg hz]at e;cases e
def spD(cA:Kn)(n:Nat)(m:List D->Option D):Sp:=λvs H Q _=>∃av ds d,(∀a,av a->H a≠none)/\RepL cA av H ds vs/\ds.length=n/\m ds=some d/\∀v H',Same H H'->Rep cA av H' d v->Q v H'
def Zm(n:Nat)(m:List D->Option D)(dds:List D)(α:Env->Option (List D))(δ:Env):Option D:=match α δ with
 |some ds=>if(ds++dds).length=n then m (ds++dds)else none
 |none=>none
def Ql.cq:Ql->Ql
 | .cl => .cl
 |_ => .dt
theorem ZJ{n:Nat}{m:List D->Option D}{t:TA}{q:Ql}{α:Env->Option (List D)}{E0:XK}(dds:List D)(hd:dds.all ZY=true)(h:VA G ow t q α):VE G ow (UK (spD G.1 n m) (dds.map val) E0 t) q.cq (Zm n m dds α):=λH0 av A σ H δ E d e Q k=>by
 unfold Zm at e;cases he:α δ with
 |none=>rw [he]at e;cases e
 |some ds=>
  rw [he]at e;dsimp only at e
  by_cases hz:(ds++dds).length=n
  · rw [if_pos hz]at e
    refine h H0 av A σ H δ E ds he _ λvs H1 s1 r1 => ?_
    have E1:=E.mono s1;cases q with
    |cl=>exact⟨AV av A,ds++dds,d,E1.avl,r1.cl.append (.of_vals hd),hz,e,λv H' s r=>k v H' (s1.trans s) r.t⟩
    |tp=>exact⟨av,ds++dds,d,E1.avH,r1.any.append (.of_vals hd),hz,e,λv H' s r=>k v H' (s1.trans s) r.t⟩
    |dt=>exact⟨av,ds++dds,d,E1.avH,r1.any.append (.of_vals hd),hz,e,λv H' s r=>k v H' (s1.trans s) r.t⟩
  · rw [if_neg hz]at e;cases e
def run(N:Nat)(φ:Env->Option Out)(ds:List D):Option D:=match φ (ds.map some++List.replicate (N-ds.length) none)with
 |some (.rt d)=>some d
 |some (.nx _)=>some .non
 |_=>none
theorem Ze5{N:List Str}{ds:List D}{vs:List V}{av:Addr->Prop}{H:Hp}(r:RepL cA av H ds vs){i:Nat}{d:D}(h:(ds.map some++List.replicate (N.length-ds.length) none)[i]? = some (some d)) :
 ∃v,(L2.start N vs)[i]? = some (some v)/\Rep cA av H d v:=by
 by_cases hi:i<ds.length
 · rw [List.getElem?_append_left (by simpa using hi),List.getElem?_map]at h
   cases hd:ds[i]? with
   |none=>rw [hd]at h;cases h
   |some x=>
    rw [hd]at h;cases h;obtain⟨v,hv,rv⟩:=r.get hd;refine⟨v,?_,rv⟩;unfold L2.start;have:i<vs.length:=by rw [<-r.length];exact hi
    rw [List.getElem?_append_left (by simpa using this),List.getElem?_map,hv];rfl
 · rw [List.getElem?_append_right (by simpa using hi),List.getElem?_replicate]at h
   split at h<;>cases h
theorem Jh{N:List Str}{ds:List D}{vs:List V}{av:Addr->Prop}{H:Hp}(ha:∀a,av a->H a≠none)(r:RepL cA av H ds vs) :
 ER ⟨cA,λ_=>none⟩ [] H av (λ_=>none) (L2.start N vs) H (ds.map some++List.replicate (N.length-ds.length) none):=by
 refine⟨Same.refl H,ha,λ_ _ z=>(by cases z),λ_ _ _ z=>(by cases z),λ_ _ z=>(by cases z),λ_ z=>absurd rfl z,λ_ z=>(by cases z),?_,λ_ _ z=>(by cases z),λ_ _ z=>(by cases z),λi d e => ?_⟩
 · unfold L2.start
   rw [List.length_append,List.length_append,List.length_map,List.length_map,List.length_replicate,List.length_replicate,r.length]
 · obtain⟨v,h1,h2⟩:=Ze5 r e
   refine⟨v,h1,λ_=>h2.av λb z => ?_,λ_ z=>(by cases z)⟩;rcases z with z|⟨_,z⟩
   · exact .inl z
   · cases z
section
variable{P:Program}{w:World}{K:PySem.W.Frag}{mg:Str->Option Value}{base:Heap}
end
theorem ZcC{vs:List V}{lo hi:Option Int}:Ux vs lo hi=cutL vs lo hi:=by
 unfold Ux cutL;have e:∀n d o,HT.sIx n d o=YE n d o:=λn d o=>by cases o<;>rfl
 rw [e,e]
theorem RepL.cutL{av:Addr->Prop}{H:Hp}{xs:List D}{vs:List V}(l:RepL cA av H xs vs)(lo hi:Option Int):RepL cA av H (L2.cutL xs lo hi) (L2.cutL vs lo hi):=by
 unfold L2.cutL;rw [l.length];exact(l.drop _).take _
def xNoP(_:Env):Option (Option Int):=some none
def xP(ε:Env->Option D)(δ:Env):Option (Option Int):=match ε δ with
 |some (.int i)=>some (some i)
 |_=>none
def VO(G:Cn)(ow:List Nat)(to:TO)(ω:Env->Option (Option Int)):Prop:=
 ∀H0 av A σ H δ,ER G ow H0 av A σ H δ->∀x,ω δ=some x->∀Q:Option Int->Hp->Prop,(∀H',Same H H'->Q x H')->to σ H Q
theorem UV:VO G ow tNoPart xNoP:=λH0 av A σ H δ E x e Q k=>by
 cases e;exact k H (Same.refl H)
theorem UW{te:TE}{q:Ql}{ε:Env->Option D}(h:VE G ow te q ε):VO G ow (ZhT te) (xP ε):=λH0 av A σ H δ E x e Q k=>by
 unfold xP at e;cases he:ε δ with
 |none=>rw [he]at e;cases e
 |some d=>
  rw [he]at e;cases d<;>first|(cases e;done)|skip
  cases e;exact h H0 av A σ H δ E _ he _ λv H' s r=>⟨_,r.any,k H' s⟩
def slD:D->Option Int->Option Int->Option D
 | .str a,lo,hi=>if a.length<=sizeLine then some (.str (L2.cutL a lo hi))else none
 | .lst xs,lo,hi=>some (.lst (L2.cutL xs lo hi))
 | .tup xs,lo,hi=>if YE xs.length 0 lo=0/\YE xs.length xs.length hi=xs.length then none else some (.tup (L2.cutL xs lo hi))
 |_,_,_=>none
def eSl(a:Env->Option D)(lo hi:Env->Option (Option Int))(δ:Env):Option D:=match a δ with
 |some x=>match lo δ with
  |some l=>match hi δ with
   |some u=>slD x l u
   |none=>none
  |none=>none
 |none=>none
theorem Zdg{a:Env->Option D}{lo hi:Env->Option (Option Int)}{δ:Env}{d:D}(h:eSl a lo hi δ=some d):∃x l u,a δ=some x/\lo δ=some l/\hi δ=some u/\slD x l u=some d:=by
 unfold eSl at h;cases ea:a δ with
 |none=>rw [ea]at h;cases h
 |some x=>
  rw [ea]at h;cases el:lo δ with
  |none=>rw [el]at h;cases h
  |some l=>
   rw [el]at h;cases eu:hi δ with
   |none=>rw [eu]at h;cases h
   |some u=>rw [eu]at h;exact⟨x,l,u,rfl,rfl,rfl,h⟩
theorem Qq{ta:TE}{tl th:TO}{q:Ql}{a:Env->Option D}{lo hi:Env->Option (Option Int)}(hq:q = .cl\/q = .tp)(ha:VE G ow ta q a)(hl:VO G ow tl lo)(hh:VO G ow th hi):VE G ow (tSl (Zi1 G.1.K) ta tl th) .cl (eSl a lo hi):=λH0 av A σ H δ E d e Q k=>by
 obtain⟨x,l,u,ex,el,eu,ed⟩:=Zdg e;refine ha H0 av A σ H δ E x ex _ λv H1 s1 r1=>hl H0 av A σ H1 δ (E.mono s1) l el _ λH2 s2=>hh H0 av A σ H2 δ ((E.mono s1).mono s2) u eu _ λH3 s3 => ?_
 have s13:=s2.trans s3;have E3:=(E.mono s1).mono s13
 have r3:RepT G.1 av (AV av A) H3 x v:=by
  have:=(r1.same s13).tp;rcases hq with rfl|rfl<;>exact this
 cases x<;>first|(cases ed;done)|skip
 · rename_i cs
   cases(show v=_ from r3);dsimp only [slD]at ed
   by_cases hz:cs.length<=sizeLine
   · rw [if_pos hz]at ed
     cases ed;exact .inl ⟨cs,rfl,hz,k _ H3 (s1.trans s13) rfl⟩
   · rw [if_neg hz]at ed;cases ed
 · cases ed
   obtain⟨p,vs,rfl,_,rd,ll⟩:=r3;refine .inr (.inl ⟨p,vs,rfl,rd,λp' hp => ?_⟩);rw [ZcC];exact k _ _ ((s1.trans s13).trans (Xa hp)) ⟨p',_,rfl,λz=>(E3.avl p' z hp).elim,SqL.of Yo,(ll.cutL l u).same (Xa hp)⟩
 · rename_i xs
   dsimp only [slD]at ed
   by_cases hz:YE xs.length 0 l=0/\YE xs.length xs.length u=xs.length
   · rw [if_pos hz]at ed;cases ed
   · rw [if_neg hz]at ed
     cases ed;obtain⟨p,vs,rfl,_,rd,ll⟩:=r3;refine .inr (.inr ⟨p,vs,rfl,SqT.of rd,?_,λp' hp => ?_⟩)
     · have e:∀n d o,HT.sIx n d o=YE n d o:=λn d o=>by cases o<;>rfl
       rw [e,e,<-ll.length];exact hz
     · rw [ZcC]
       exact k _ _ ((s1.trans s13).trans (Xa hp)) ⟨p',_,rfl,λz=>E3.avl p' z hp,Yo,(ll.cutL l u).same (Xa hp)⟩
def ZgQ(K:PySem.W.Frag):List V->Hp->VK->Prop:=λxs H Q=>Zmh K xs H Q\/∃p vs c cv b,xs=[.ref p,c]/\(∀v,RelV c v->v=cv)/\KL K p vs/\kitOne K (.type "list") cv=some b/\Q (.bl b) H
theorem Xk{X:Cx}{K:PySem.W.Frag}(hK:X.K=K:=by rfl):Y9 X (.builtin "isinstance") (ZgQ K):=by
 subst hK;intro pins s σ H xs us Q I rs h;rcases h with h|⟨p,vs,c,cv,b,rfl,hc,⟨o,its,n,hk,h1,_⟩,e,q⟩
 · exact ZfI pins s σ H xs us Q I rs h
 · obtain⟨u,w',rfl,rx,rc⟩:=ZgM rs
   have ec:=hc _ rc;subst ec;cases(show u=Value.ref p from rx);exact PySem.W.kia_one PySem.W.kitx_list I.kIn ⟨o,I.kIn p o hk,h1⟩ e (λz=>nomatch z) λtk=>⟨.bl b,H,I.tok tk,rfl,q⟩
def kind:D->String
 | .non => "NoneType"
 | .bl _ => "bool"
 | .int _ => "int"
 | .str _ => "str"
 | .lst _ => "list"
 | .tup _ => "tuple"
 | .obj c _ _=>c
 | .dct _ _ => "dict"
 | .dtt _ _ => "dict"
 | .clo _ _ => "function"
def plainKinds:List String:=["NoneType", "bool", "int", "str", "list", "tuple"]
def Yi(tab:List (String×Bool)):D->Option Bool
 | .obj c _ _=>if plainKinds.contains c then none else tab.lookup c
 | .dct _ _=>none
 | .dtt _ _=>none
 | .clo _ _=>none
 |d=>tab.lookup (kind d)
def ZK(tab:List (String×Bool))(a:Env->Option D)(δ:Env):Option D:=match a δ with
 |some d=>match Yi tab d with
  |some b=>some (.bl b)
  |none=>none
 |none=>none
structure ClsI(K:PySem.W.Frag)(C:Addr):Prop where
 cl:Cls K C
 ha:PySem.W.findIn K (.ref C) "__class__" = some (some (.builtin "object.__class__"))
 hn:PySem.W.specialIn K (.builtin "object.__class__") "__get__" = some (some (.builtin "getset_descriptor.__get__"))
 htk:PySem.W.takesIn K (.builtin "object.__class__")=some true
 hm:PySem.W.mroIn K C (.type "object")=some true
structure IsiOk(K:PySem.W.Frag)(cA:Kn)(cv:Value)(tab:List (String×Bool)):Prop where
 plain:∀k∈plainKinds,∀b,tab.lookup k=some b->kitOne K (.type k) cv=some b
 own:∀(c:String)b,plainKinds.contains c=false->tab.lookup c=some b->kitOne K (.ref (cA.c c)) cv=some b/\ClsI K (cA.c c)
theorem ZbN{β:Type}{c:String}{b:β}:∀{tab:List (String×β)},tab.lookup c=some b->(c,b)∈tab
 | [],h=>by simp at h
 |(c',b')::r,h=>by
  rw [List.lookup_cons]at h;cases hc:c == c' with
  |true=>
   rw [hc]at h;cases h;rw [eq_of_beq hc];exact List.mem_cons_self
  |false=>
   rw [hc]at h;exact List.mem_cons_of_mem _ (ZbN h)
theorem V2{K:PySem.W.Frag}{cA:Kn}{cv:Value}{tab:List (String×Bool)}(h:∀p∈tab,if plainKinds.contains p.1=true then kitOne K (.type p.1) cv=some p.2 else kitOne K (.ref (cA.c p.1)) cv=some p.2/\ClsI K (cA.c p.1)):IsiOk K cA cv tab where
 plain:=λk hk b hl=>by
  have:=h _ (ZbN hl)
  rwa [if_pos (by simpa using hk)]at this
 own:=λc b hc hl=>by
  have:=h _ (ZbN hl)
  rwa [if_neg (by simpa using hc)]at this
theorem YO{ta:TE}{q:Ql}{a:Env->Option D}{c:V}{cv:Value}{tab:List (String×Bool)}(hc:∀v,RelV c v->v=cv)(I:IsiOk G.1.K G.1 cv tab)(ha:VE G ow ta q a) :
 VE G ow (tCB (ZgQ G.1.K) (Vj ta (Vj (tC c) tNil))) .cl (ZK tab a):=λH0 av A σ H δ E d e Q k=>by
 unfold ZK at e;cases he:a δ with
 |none=>rw [he]at e;cases e
 |some x=>
  rw [he]at e;dsimp only at e;cases ht:Yi tab x with
  |none=>rw [ht]at e;cases e
  |some b=>
   rw [ht]at e;cases e;refine ha H0 av A σ H δ E x he _ λv H1 s r => ?_
   have r':=r.any;have fin:∀t,TyOf G.1.K H1 v t->kitOne G.1.K t cv=some b->ZgQ G.1.K [v,c] H1 Q:=λt ty e => .inl ⟨v,c,cv,t,b,rfl,hc,ty,e,k _ H1 s rfl⟩
   cases x with
   |non=>cases(show v=_ from r');exact fin _ .non (I.plain _ (by decide) b (by exact ht))
   |bl y=>cases(show v=_ from r');exact fin _ (.bl y) (I.plain _ (by decide) b (by exact ht))
   |int y=>cases(show v=_ from r');exact fin _ (.int y) (I.plain _ (by decide) b (by exact ht))
   |str y=>cases(show v=_ from r');exact fin _ (.str _) (I.plain _ (by decide) b (by exact ht))
   |lst y=>
    unfold Rep at r';obtain⟨p,vs,rfl,_,rd,_⟩:=r';rcases rd with(rd|⟨o,rd⟩)|rd
    · exact fin _ (.lst rd) (I.plain _ (by decide) b (by exact ht))
    · exact fin _ (.frz rd) (I.plain _ (by decide) b (by exact ht))
    · exact .inr ⟨p,vs,c,cv,b,rfl,hc,rd,I.plain _ (by decide) b (by exact ht),k _ H1 s rfl⟩
   |tup y=>
    unfold Rep at r';obtain⟨p,vs,rfl,_,rd,_⟩:=r';exact fin _ (.tup rd) (I.plain _ (by decide) b (by exact ht))
   |dct ks y=>cases ht
   |dtt ks y=>cases ht
   |clo c y=>cases ht
   |obj c' ks y=>
    unfold Rep at r';obtain⟨p,dx,vs,rfl,_,rd,_⟩:=r';dsimp only [Yi]at ht;cases hp:plainKinds.contains c' with
    |true=>rw [hp,if_pos rfl]at ht;cases ht
    |false=>
    rw [hp,if_neg Bool.false_ne_true]at ht;obtain⟨h1,h2⟩:=I.own c' b hp ht;exact fin _ (.ins rd h2.cl h2.ha h2.hn h2.htk h2.hm) h1
end
end DL
namespace L2
open PySem PySem.Spec
section
variable{X:Cx}
theorem ZfM:MtR X "str.count" (λx xs H Q=>∃a c,x=S a/\xs=[S [c]]/\Q (.int (a.count c:Nat)) H):=by
 intro pins s σ H x xs v us Q I rx rs h;obtain⟨a,c,rfl,rfl,q⟩:=h;obtain⟨t,rfl⟩:=rx;obtain⟨u,rfl,t',rfl⟩:=Xf rs;refine SC.count ?_;rw [ZfG];exact⟨.int _,H,I.tok _,⟨_,rfl⟩,q⟩
theorem Zbt:∀{l:List (List Nat)}{us:List Value},Vals (l.map S) us->PyProof.Rows.StrsAre us (l.map tx)
 | [],us,r=>by
  rw [List.map_nil]at r;cases r;exact .nil
 |a::l,us,r=>by
  rw [List.map_cons]at r;cases r with
  |cons r1 r2=>
   obtain⟨t,rfl⟩:=r1;exact .cons _ t (Zbt r2)
theorem Qr{K:PySem.W.Frag}(hK:X.K=K:=by rfl):MtR X "str.join" (λx xs H Q=>∃sep p l,x=S sep/\xs=[.ref p]/\SqL K H p (l.map S)/\(l.map List.length).sum+l.length*sep.length<=sizeLine/\Q (S (ZM sep l)) H):=by
 subst hK;intro pins s σ H x xs v us Q I rx rs h;obtain⟨sep,p,l,rfl,rfl,hq,hz,q⟩:=h;obtain⟨t,rfl⟩:=rx;obtain⟨u,rfl,rp⟩:=Xf rs;cases rp;obtain⟨its,rv,pl,_⟩:=I.list hq;have hs:sizeLine=16777216:=sizeLine_eq;refine PyProof.Rows.join_list (ys:=l.map tx) pl.isList (by simpa using Zbt rv) ?_ λt' k=>⟨S (ZM sep l),H,I.tok _,⟨t',?_⟩,q⟩
 · have e : ((l.map tx).map (·.length)) = l.map List.length := by
    rw [List.map_map];exact List.map_congr_left λa _=>YL a
   rw [e,List.length_map,YL];omega
 · have:=ZcA sep l
   show Value.str (Builtin.Str.glued (tx sep) (l.map tx)) t'=_;rw [StrLaws.glued_eq_join,ZcA]
end
end L2
namespace DL
open PySem PySem.Spec L2
section
variable{cA:Kn}{G:Cn}{ow:List Nat}
def Qs(cA:Kn)(r:V->List V->Hp->VK->Prop)(f:List Nat->List D->Option D):Prop:=
 ∀(i:Addr->Prop)(H:Hp)(a:List Nat)(ds:List D)(vs:List V)(d:D),(∀a,i a->H a≠none)->Uh cA i H ds vs->f a ds=some d->∀Q:VK,(∀v H',Same H H'->Rep cA i H' d v->Q v H')->r (S a) vs H Q
def eBM(f:List Nat->List D->Option D)(a:Env->Option D)(α:Env->Option (List D))(δ:Env):Option D:=match a δ with
 |some (.str cs)=>match α δ with
  |some ds=>f cs ds
  |none=>none
 |_=>none
theorem Vz{K:PySem.W.Frag}{r:V->List V->Hp->VK->Prop}{f:List Nat->List D->Option D}{to:TE}{t:TA}{q0 q:Ql}{a:Env->Option D}{α:Env->Option (List D)}(hr:Qs G.1 r f)(ha:VE G ow to q0 a)(h:VA G ow t q α) :
 VE G ow (tBM K "str" r to t) q.it (eBM f a α):=λH0 av A σ H δ E d e Q k=>by
 unfold eBM at e;cases hx:a δ with
 |none=>rw [hx]at e;cases e
 |some x=>
  rw [hx]at e;cases x<;>first|(cases e;done)|skip
  rename_i cs;dsimp only at e;cases he:α δ with
  |none=>rw [he]at e;cases e
  |some ds=>
   rw [he]at e;refine ha H0 av A σ H δ E _ hx _ λv H1 s1 r1 => ?_
   have e1:v=S cs:=r1.any;subst e1;refine⟨rfl,h H0 av A σ H1 δ (E.mono s1) ds he _ λvs H2 s2 r2 => ?_⟩;have E2:=(E.mono s1).mono s2;have s12:=s1.trans s2;cases q with
   |cl=>exact hr _ H2 cs ds vs d E2.avl r2.il e _ λv H' s r=>k v H' (s12.trans s) r.t
   |tp=>exact hr _ H2 cs ds vs d E2.avl r2.il e _ λv H' s r=>k v H' (s12.trans s) r.t
   |dt=>exact hr _ H2 cs ds vs d E2.avH r2.il e _ λv H' s r=>k v H' (s12.trans s) r.t
def startsD(a:List Nat):List D->Option D
 | [.str b]=>some (.bl (b.isPrefixOf a))
 |_=>none
def countD(a:List Nat):List D->Option D
 | [.str [c]]=>some (.int (a.count c:Nat))
 |_=>none
theorem Zc0{i:Addr->Prop}{H:Hp}{b:List Nat}{vs:List V}(h:Uh cA i H [.str b] vs):vs=[S b]:=by
 obtain⟨v,t,rfl,hx⟩:=il1 h;rw [show v=S b from hx]
theorem Ze6:Qs cA (λx xs H Q=>∃a b,x=S a/\xs=[S b]/\Q (.bl (b.isPrefixOf a)) H) startsD:=λi H a ds vs d _ h e Q k=>by
 unfold startsD at e
 split at e
 · cases e;exact⟨a,_,rfl,Zc0 h,k _ H (Same.refl H) rfl⟩
 · cases e
theorem ZfN:Qs cA (λx xs H Q=>∃a c,x=S a/\xs=[S [c]]/\Q (.int (a.count c:Nat)) H) countD:=λi H a ds vs d _ h e Q k=>by
 unfold countD at e
 split at e
 · cases e;exact⟨a,_,rfl,Zc0 h,k _ H (Same.refl H) rfl⟩
 · cases e
def strs? : List D->Option (List (List Nat))
 | []=>some []
 | .str a::r=>match strs? r with
  |some l=>some (a::l)
  |none=>none
 |_=>none
theorem Zeq:∀{xs:List D}{l:List (List Nat)},strs? xs=some l->xs=l.map D.str
 | [],l,h=>by cases h;rfl
 |x::xs,l,h=>by
  cases x<;>first|(cases h;done)|skip
  rename_i a;unfold strs? at h;cases hr:strs? xs with
  |none=>rw [hr]at h;cases h
  |some r=>
   rw [hr]at h;cases h;rw [List.map_cons,Zeq hr]
theorem ZfO(l:List (List Nat)):strs? (l.map D.str)=some l:=by
 induction l with
 |nil=>rfl
 |cons a l ih=>rw [List.map_cons,strs?,ih]
def joinD(sep:List Nat):List D->Option D
 | [.lst xs]=>match strs? xs with
  |some l=>if(l.map List.length).sum+l.length*sep.length<=sizeLine then some (.str (ZM sep l))else none
  |none=>none
 |_=>none
theorem Qt:Qs cA (λx xs H Q=>∃sep p l,x=S sep/\xs=[.ref p]/\SqL cA.K H p (l.map S)/\(l.map List.length).sum+l.length*sep.length<=sizeLine/\Q (S (ZM sep l)) H) joinD:=λi H a ds vs d _ h e Q k=>by
 unfold joinD at e
 split at e
 · rename_i xs
   cases hs:strs? xs with
   |none=>rw [hs]at e;cases e
   |some l=>
    rw [hs]at e;dsimp only at e
    by_cases hz:(l.map List.length).sum+l.length*a.length<=sizeLine
    · rw [if_pos hz]at e
      cases e;obtain⟨v,t,rfl,p,ws,rfl,_,rd,ll⟩:=il1 h;have ex:=Zeq hs;subst ex;have ev:=ll.vals (by rw [List.all_map];exact List.all_eq_true.mpr λ_ _=>rfl);rw [List.map_map]at ev;subst ev;exact⟨a,p,l,rfl,rfl,rd,hz,k _ H (Same.refl H) rfl⟩
    · rw [if_neg hz]at e;cases e
 · cases e
end
end DL
namespace L2
open PySem PySem.Spec
structure FunX(K:PySem.W.Frag)(x qual:Str)(st:Stmt)(f:Addr)(fd:FuncData):Prop where
 ex:∃(oc:Value) (od:Option Addr) (dV kV doc pm:Value) (an:Option Addr) (cdv ct:Value) (osl:Array (Option Value)),
  fd=fnOf x qual (defArgs st) (defBody st) (defScope st) dV kV doc pm an cdv ct/\K.lookup f=some ⟨oc,od,.func fd,osl⟩/\codeIn K cdv qual=true
theorem Fun.x{K:PySem.W.Frag}{x qual:Str}{st:Stmt}{f:Addr}{fd:FuncData}(F:Fun K x qual st f fd):FunX K x qual st f fd:=by
 obtain⟨oc,od,kV,doc,pm,an,cdv,ct,osl,h⟩:=F.ex;exact⟨oc,od,.none,kV,doc,pm,an,cdv,ct,osl,h⟩
section
variable{P:Program}{w:World}{K:PySem.W.Frag}{mg:Str->Option Value}{base:Heap}
theorem FunX.ok {x qual:Str} {st:Stmt} {f:Addr} {fd:FuncData} {N ps:List Str} {k:Nat} {sp:Sp} (F:FunX K x qual st f fd) (S:FnScope N ps (defScope st)) (len:∀vs H Q E,sp vs H Q E->vs.length=ps.length)
 (hbody:∀(cdv:Value)(A:Around)(outer:List Env)(s:Shared)(H:Hp)(vs:List V)(Q:VK)(E:XK),Room k (A.deeper (PyProof.Rows.envOfC qual (defScope st) s.heap.objs.size f cdv))->sp vs H Q E ->
   ∃t,PSs (YK CX0 P w K mg base N qual (defScope st) f cdv A outer s H E).nox (defBody st) t/\t { nx:=λ_ H'=>Q .non H',rt:=Q } (start N vs) H):FnOk P w K mg base CX0 (k+1) f fd ps sp:=by
 obtain⟨oc,od,dV,kV,doc,pm,an,cdv,ct,osl,rfl,lk,hcd⟩:=F.ex;refine ZgN lk hcd S len λA outer s H vs Q E hr hsp => ?_
 obtain⟨t,h,q⟩:=hbody cdv A outer s H vs Q E hr hsp;exact⟨t,h.nox,q⟩
theorem Zbu {x qual:Str} {st:Stmt} {dT:Addr} {o:Obj} {ps:List Str} {ds items:List Value} {n:Nat} {kV doc pm:Value} {an:Option Addr} {cdv ct:Value} (us0:List Str) (ht:K.lookup dT=some o) (hd:o.data = .seq items.toArray n) (hn:us0.length+ds.length=ps.length)
 (h:∀(us:List Value),us.length=us0.length->∃k,bindArgs (fnOf x qual (defArgs st) (defBody st) (defScope st) (.ref dT) kV doc pm an cdv ct) ⟨us,[]⟩=seqItems? (.ref dT) >>= k/\k (some items.toArray)=pure (ps.zip (us++ds))) :
 Binds K (fnOf x qual (defArgs st) (defBody st) (defScope st) (.ref dT) kV doc pm an cdv ct) ps ds:=λs us X hl=>by
 obtain⟨k,h1,h2⟩:=h us (by rw [List.length_append]at hl;omega);exact BindsTo.of_defaults (T:=dT) (o:=o) (items:=items.toArray) (n:=n) rfl (X _ _ ht) hd h1 h2
end
section
variable{X:Cx}
end
structure CMeth(K:PySem.W.Frag)(C:Addr)(m:Str)(f:Addr):Prop where
 ga:PySem.W.specialIn K (.ref C) "__getattribute__" = some (some (.builtin "type.__getattribute__"))
 rd:PySem.W.readsIn K C (.type "type")=true
 fc:PySem.W.findCls K (.ref C) (.type "type") m=some (.val (.ref f))
 kp:keepIn K (.ref f)=true
section
variable{X:Cx}{CX:CXT}{k:Nat}{f C:Addr}{fd:FuncData}{ps:List Str}{sp:Sp}{dvs:List V}{ds:List Value}{E:XK}{x m:Str}{p pos apos:Pos}{e o:Expr}{es:List Expr}{ta:TE}{t:TA}
theorem Qu {pl:Sem Bool} (hg:Gl X x) (hmg:X.mg x=some (.ref C)) (hm:CMeth X.K C m f) (F:FnOk X.prog X.w X.K X.mg X.base CX k f fd ps sp) (hr:Room k X.A) (hb:Binds X.K fd ps ds) (hd:Vals dvs ds) (hx:VW CX X E) (ha:PA X (e::es) t)
 (hdb:(x == ("__debug__" : Str))=false:=by decide)
 (hst:starEach (e::es) X.env=(false,eval e X.env)::starEach es X.env:=by rfl) (hpl:(backTo pos (starEach es X.env)).any (·.1)=false:=by rfl)
 (ht:eval (.Call (.Attribute (.Name x p) m apos) (e::es) [] pos) X.env=(do
   let ov <-eval (.Name x p) X.env
   standAt apos.atName
   let(f,first) <-holding [ov] (getMethod ov m pl)
   callWith pos f first (backTo pos (starEach (e::es) X.env)) (backToKw pos (keywordEach [] X.env))):=by rfl) :
 PE X (.Call (.Attribute (.Name x p) m apos) (e::es) [] pos) (UK sp dvs E t):=by
 intro pins s σ H Q I h;refine PySem.W.methodCall_KW (pl:=pl) (Ud I hg hmg ?_ hdb) ht;refine PySem.W.method_cls I.kIn hm.ga (PySem.W.cls_value I.kIn hm.rd hm.fc rfl ?_);have I1:Inv X pins σ H { s with toks:=s.toks+1 }:=I.tok _;refine PySem.W.callWith_K (first:=[]) (h₀:=X.base) I.ok.mod.kin hm.kp (thn (ha pos pins _ σ H _ I1 h) λus s2 ⟨vs,H2,I2,r,q2⟩=>⟨I2.kIn,?_⟩) hst hpl;exact ZcY (us:=us) (vs:=vs) F hr hb hd hx I2 r q2
end
end L2
namespace DL
open PySem PySem.Spec L2
theorem ZaM{a b:String}(h:Str.ofString a=Str.ofString b):a=b:=by
 rw [Str.ofString_eq_toList,Str.ofString_eq_toList]at h
 have h1:(a.toList.map Char.toNat)=(b.toList.map Char.toNat):=by
  have:=congrArg (λs:Str=>s.cps.toList) h;simpa using this
 have inj:∀{x y:List Char},x.map Char.toNat=y.map Char.toNat->x=y:=by
  intro x
  induction x with
  |nil=>
   intro y h;cases y with
   |nil=>rfl
   |cons _ _=>cases h
  |cons c x ih=>
   intro y h;cases y with
   |nil=>cases h
   |cons d y=>
    rw [List.map_cons,List.map_cons,List.cons.injEq]at h;have:c=d:=Char.toNat_inj.mp h.1;rw [this,ih h.2]
 exact String.toList_inj.mp (inj h1)
theorem ZaN(a b:String):(Str.ofString a == Str.ofString b)=(a == b):=by
 rw [Bool.eq_iff_iff,beq_iff_eq,beq_iff_eq];exact⟨ZaM,λh=>by rw [h]⟩
section
variable{cA:Kn}{G:Cn}{ow owN owB owC:List Nat}
theorem Zdh{av:Addr->Prop}{H:Hp}{f:String}:∀{ks:List String}{xs:List D}{vs:List V}{d:D},RepL cA av H xs vs->(ks.zip xs).lookup f=some d->∃v,((ks.map Str.ofString).zip vs).lookup (Str.ofString f)=some v/\Rep cA av H d v
 | [],_,_,_,_,h=>by simp at h
 |k::ks,[],_,_,_,h=>by simp at h
 |k::ks,x::xs,vs,d,l,h=>by
  obtain⟨v,r,rfl,h1,h2⟩:=l.uncons;rw [List.zip_cons_cons,List.lookup_cons]at h;rw [List.map_cons,List.zip_cons_cons,List.lookup_cons,ZaN];cases hk:f == k with
  |true=>rw [hk]at h;cases h;exact⟨v,rfl,h1⟩
  |false=>rw [hk]at h;exact Zdh h2 h
theorem Zdi{f:String}:∀{ks:List String}{vs:List V},ks.contains f=false->((ks.map Str.ofString).zip vs).lookup (Str.ofString f)=none
 | [],_,_=>by simp
 |k::ks,[],_=>by simp
 |k::ks,v::vs,h=>by
  rw [List.contains_cons,Bool.or_eq_false_iff]at h;rw [List.map_cons,List.zip_cons_cons,List.lookup_cons,ZaN,h.1];exact Zdi h.2
theorem Zer{f:String}{y:V}:∀{ks:List String}{vs:List V},ks.length=vs.length->ks.contains f=false->Xg (Str.ofString f) y ((ks.map Str.ofString).zip vs)=(((ks++[f]).map Str.ofString).zip (vs++[y]))
 | [],[],_,_=>rfl
 | [],_::_,h,_=>by simp at h
 |_::_,[],h,_=>by simp at h
 |k::ks,v::vs,h,hf=>by
  rw [List.contains_cons,Bool.or_eq_false_iff]at hf
  have hne:¬Str.ofString k=Str.ofString f:=λz=>by
   have:=ZaM z;have h1:=hf.1;rw [this]at h1;simp at h1
  rw [List.map_cons,List.zip_cons_cons,List.cons_append,List.cons_append,List.map_cons,List.zip_cons_cons];rw [show Xg (Str.ofString f) y ((Str.ofString k,v)::(ks.map Str.ofString).zip vs)=(if Str.ofString k=Str.ofString f then(Str.ofString k,y)::(ks.map Str.ofString).zip vs else(Str.ofString k,v)::Xg (Str.ofString f) y ((ks.map Str.ofString).zip vs))from rfl,if_neg hne];rw [Zer (by simpa using h) hf.2]
def XW(K:PySem.W.Frag)(cA:Kn)(cls:List String)(f:String):Prop:=∀c∈cls,Cls K (cA.c c)/\NoAttr K (cA.c c) (Str.ofString f)
def Zu(cls:List String)(f:String)(a:Env->Option D)(δ:Env):Option D:=match a δ with
 |some (.obj c ks xs)=>if cls.contains c then(ks.zip xs).lookup f else none
 |_=>none
theorem Z3{K:PySem.W.Frag}{ta:TE}{q:Ql}{a:Env->Option D}{cls:List String}{f:String}(F:XW K G.1 cls f)(ha:VE G ow ta q a):VE G ow (ZjV K ta (Str.ofString f)) q.it (Zu cls f a):=λH0 av A σ H δ E d e Q k=>by
 unfold Zu at e;cases he:a δ with
 |none=>rw [he]at e;cases e
 |some x=>
  rw [he]at e;cases x<;>first|(cases e;done)|skip
  rename_i c ks xs;dsimp only at e
  by_cases hc:cls.contains c=true
  · rw [if_pos hc]at e
    obtain⟨h1,h2⟩:=F c (by simpa using hc);refine ha H0 av A σ H δ E _ he _ λv H1 s r => ?_
    obtain⟨p,dx,vs,rfl,_,rd,_,l⟩:=r.tp;obtain⟨w,hw,rw'⟩:=Zdh l e;refine⟨p,_,dx,_,w,rfl,rd,h1,h2,hw,k w H1 s ?_⟩;cases q<;>exact rw'.t
  · rw [if_neg hc]at e;cases e
def Z5(i:Nat)(cls:List String)(f:String)(ε:Env->Option D)(δ:Env):Option Out:=match ε δ with
 |some d=>match Za i δ with
  |some (.obj c ks xs)=>if cls.contains c && !ks.contains f&&decide (ks.length<1000)then some (.nx (δ.set i (some (.obj c (ks++[f]) (xs++[d])))))else none
  |_=>none
 |none=>none
theorem Vc{K:PySem.W.Frag}{te:TE}{ε:Env->Option D}{cls:List String}{f:String}(i:Nat)(hi:ow.contains i=true)(F:XW K G.1 cls f)(h:VE G ow te .cl ε):VS G ow ow owB owC (ZlW K (Uu i) te (Str.ofString f)) (Z5 i cls f ε):=λH0 av A σ H δ E o e De k=>by
 unfold Z5 at e;cases he:ε δ with
 |none=>rw [he]at e;cases e
 |some d=>
  rw [he]at e;dsimp only at e;cases hv:Za i δ with
  |none=>rw [hv]at e;cases e
  |some x=>
   rw [hv]at e;cases x<;>first|(cases e;done)|skip
   rename_i c ks xs;dsimp only at e
   by_cases hz:(cls.contains c && !ks.contains f&&decide (ks.length<1000))=true
   · rw [if_pos hz]at e
     cases e;simp only [Bool.and_eq_true,decide_eq_true_eq,Bool.not_eq_true']at hz;obtain⟨⟨z1,z2⟩,z3⟩:=hz;obtain⟨h1,h2⟩:=F c (by simpa using z1);have hi':i∈ow:=by simpa using hi
     cases hA:A i with
     |none=>exact absurd hA (E.dom' i hi')
     |some a=>
      refine h H0 av A σ H δ E d he _ λy H1 s r => ?_
      have E1:=E.mono s;obtain⟨v,g1,_,g3⟩:=E1.var i _ (Vk hv);obtain⟨rfl,dx,vs,q1,q0,q2⟩:=g3 a hA;have hl:ks.length=vs.length:=q0.trans q2.length;refine⟨_,g1,a,_,dx,_,rfl,q1,h1,h2,?_,k A σ _ (E1.put hA (Vk hv) (λb o hb e=>by rw [Zx hb];exact e) (by rw [Yo];exact λz=>by cases z) ?_)⟩
      · rw [List.length_zip,List.length_map];omega
      · refine⟨dx,vs++[y],?_,by rw [List.length_append,List.length_append,q0];rfl,?_⟩
        · rw [Yo,Zer hl z2]
        · have ex : ∀ b o, ¬ AV av A b -> H1 b = some o -> upd H1 a (.ins (G.1.c c) dx (Xg (Str.ofString f) y ((ks.map Str.ofString).zip vs))) b = some o := fun b o n e => by
           rw [Zx λz=>n (.inr ⟨i,by rw [z];exact hA⟩)];exact e
          exact(q2.append (.cons (RepT.r r) .nil)).ext ex
   · rw [if_neg hz]at e;cases e
def spI(cA:Kn)(n:Nat)(m:List D->Option D):Sp:=λvs H Q _=>∃(x:Addr) (r:List V) (av:Addr->Prop) (ds:List D) (d d':D),vs = .ref x::r/\(∀a,av a->H a≠none)/\¬av x/\Own cA (λa=>av a\/a=x) H d x/\RepL cA (λa=>av a\/a=x) H ds r/\(d::ds).length=n/\m (d::ds)=some d' /\
 ∀H',(∀b o,b≠x->H b=some o->H' b=some o)->Own cA (λa=>av a\/a=x) H' d' x->Q .non H'
theorem Own.live{av:Addr->Prop}{H:Hp}{d:D}{a:Addr}(h:Own cA av H d a):H a≠none:=by
 cases d with
 |lst xs=>obtain⟨vs,q,_⟩:=h;rw [q];exact λz=>by cases z
 |obj c ks xs=>obtain⟨dx,vs,q,_⟩:=h;rw [q];exact λz=>by cases z
 |dct ks xs=>obtain⟨vs,q,_⟩:=h;rw [q];exact λz=>by cases z
 |dtt ks xs=>obtain⟨vs,q,_⟩:=h;rw [q];exact λz=>by cases z
 |_=>exact h.elim
theorem Own.av{av av':Addr->Prop}{H:Hp}{d:D}{a:Addr}(k:∀b,av' b->av b\/H b=none)(h:Own cA av H d a):Own cA av' H d a:=by
 cases d with
 |lst xs=>obtain⟨vs,q,l⟩:=h;exact⟨vs,q,l.av k⟩
 |obj c ks xs=>obtain⟨dx,vs,q,z,l⟩:=h;exact⟨dx,vs,q,z,l.av k⟩
 |dct ks xs=>obtain⟨vs,q,z,l⟩:=h;exact⟨vs,q,z,l.av k⟩
 |dtt ks xs=>obtain⟨vs,q,z,l⟩:=h;exact⟨vs,q,z,l.av k⟩
 |_=>exact h.elim
theorem Own.rep{av:Addr->Prop}{H:Hp}{d:D}{a:Addr}(n:¬av a)(h:Own cA av H d a):Rep cA av H d (.ref a):=by
 cases d with
 |lst xs=>obtain⟨vs,q,l⟩:=h;unfold Rep;exact⟨a,vs,rfl,λz=>(n z).elim,SqL.of q,l⟩
 |obj c ks xs=>obtain⟨dx,vs,q,z,l⟩:=h;unfold Rep;exact⟨a,dx,vs,rfl,n,q,z,l⟩
 |dct ks xs=>obtain⟨vs,q,z,l⟩:=h;unfold Rep;exact⟨a,vs,rfl,n,q,z,l⟩
 |dtt ks xs=>obtain⟨vs,q,z,l⟩:=h;unfold Rep;exact⟨a,vs,rfl,n,q,z,l⟩
 |_=>exact h.elim
def ZT(c:String)(n:Nat)(m:List D->Option D)(dds:List D)(α:Env->Option (List D))(δ:Env):Option D:=match α δ with
 |some ds=>if(D.obj c [] []::(ds++dds)).length=n then m (.obj c [] []::(ds++dds))else none
 |none=>none
theorem XF{n:Nat}{m:List D->Option D}{t:TA}{α:Env->Option (List D)}{E0:XK}{c:String}(dds:List D)(hd:dds.all ZY=true)(h:VA G ow t .cl α):VE G ow (ZhS (G.1.c c) (spI G.1 n m) (dds.map val) E0 t) .cl (ZT c n m dds α):=λH0 av A σ H δ E d e Q k=>by
 unfold ZT at e;cases he:α δ with
 |none=>rw [he]at e;cases e
 |some ds=>
  rw [he]at e;dsimp only at e
  by_cases hz:(D.obj c [] []::(ds++dds)).length=n
  · rw [if_pos hz]at e
    refine h H0 av A σ H δ E ds he _ λvs H1 s1 r1 x dx hx hdx hne => ?_
    have E1:=E.mono s1;have s2:Same H1 (upd (upd H1 dx (.own x)) x (.ins (G.1.c c) dx [])):=(Xa hdx).trans (Xa (by rw [Zx (Ne.symm hne)];exact hx));have nx:¬AV av A x:=λz=>E1.avl x z hx
    refine⟨x,vs++dds.map val,AV av A,ds++dds,.obj c [] [],d,rfl,λa z => ?_,nx,⟨dx,[],Yo,rfl,.nil⟩,?_,hz,e,λH' hk ho=>⟨rfl,k _ H' ?_ ?_⟩⟩
    · have:=E1.avl a z
      cases q:H1 a with
      |none=>exact absurd q this
      |some o=>rw [s2 a o q];exact λz=>by cases z
    · refine RepL.same s2 ((r1.cl.append (.of_vals hd)).av λb z => ?_)
      rcases z with z|z
      · exact .inl z
      · exact .inr (by rw [z];exact hx)
    · refine s1.trans λb o e=>hk b o (λz=>by rw [z,hx]at e;cases e) (s2 b o e)
    · exact((ho.av λb z => .inl (.inl z)).rep nx).t
  · rw [if_neg hz]at e;cases e
def Yn(i n:Nat)(m:List D->Option D)(dds:List D)(α:Env->Option (List D))(δ:Env):Option Out:=match Za i δ with
 |some d=>match α δ with
  |some ds=>if(d::(ds++dds)).length=n then(match m (d::(ds++dds))with
   |some d'=>some (.nx (δ.set i (some d')))
   |none=>none)else none
  |none=>none
 |none=>none
theorem Qv{n:Nat}{m:List D->Option D}{t:TA}{α:Env->Option (List D)}{E0:XK}(i:Nat)(hi:ow.contains i=true)(dds:List D)(hd:dds.all ZY=true)(h:VA G ow t .cl α) :
 VS G ow ow owB owC (UI (UK (spI G.1 n m) (dds.map val) E0 (Vj (Uu i) t))) (Yn i n m dds α):=λH0 av A σ H δ E o e De k=>by
 unfold Yn at e;cases hv:Za i δ with
 |none=>rw [hv]at e;cases e
 |some d=>
  rw [hv]at e;dsimp only at e;cases he:α δ with
  |none=>rw [he]at e;cases e
  |some ds=>
   rw [he]at e;dsimp only at e
   by_cases hz:(d::(ds++dds)).length=n
   · rw [if_pos hz]at e
     cases hm:m (d::(ds++dds))with
     |none=>rw [hm]at e;cases e
     |some d'=>
      rw [hm]at e;cases e;have hi':i∈ow:=by simpa using hi
      cases hA:A i with
      |none=>exact absurd hA (E.dom' i hi')
      |some a=>
       obtain⟨v,g1,_,g3⟩:=E.var i _ (Vk hv);obtain⟨rfl,_⟩:=g3 a hA;refine⟨_,g1,h H0 av A σ H δ E ds he _ λvs H1 s r => ?_⟩;have E1:=E.mono s;obtain⟨v2,g1',_,g3'⟩:=E1.var i _ (Vk hv);obtain⟨_,ow'⟩:=g3' a hA
       have eqv:∀b,(AV av A b/\b≠a)\/b=a ↔ AV av A b:=λb=>by
        constructor
        · rintro(z|z)
          · exact z.1
          · rw [z];exact .inr ⟨i,hA⟩
        · intro z
          by_cases q:b=a
          · exact .inr q
          · exact .inl ⟨z,q⟩
       refine⟨a,vs++dds.map val,λb=>AV av A b/\b≠a,ds++dds,d,d',rfl,λb z=>E1.avl b z.1,λz=>z.2 rfl,ow'.av λb z => .inl ((eqv b).mp z),(r.cl.append (.of_vals hd)).av λb z => .inl ((eqv b).mp z),hz,hm,λH' hk ho => ?_⟩;exact k A σ H' (E1.put hA (Vk hv) hk ho.live (ho.av λb z => .inl ((eqv b).mpr z)))
   · rw [if_neg hz]at e;cases e
def runI(N:Nat)(φ:Env->Option Out)(ds:List D):Option D:=match φ (ds.map some++List.replicate (N-ds.length) none)with
 |some (.nx δ)=>Za 0 δ
 |_=>none
section
variable{P:Program}{w:World}{K:PySem.W.Frag}{mg:Str->Option Value}{base:Heap}
theorem Zmi {x qual:Str} {st:Stmt} {f:Addr} {fd:FuncData} {N ps:List Str} {k:Nat} {φ:Env->Option Out} (F:FunX K x qual st f fd) (S:FnScope N ps (defScope st))
 (hbody:∀(cdv:Value)(A:Around)(outer:List PySem.Env)(s:Shared)(H:Hp)(E:XK)(a:Addr),Room k (A.deeper (PyProof.Rows.envOfC qual (defScope st) s.heap.objs.size f cdv)) ->
   ∃t,PSs (YK CX0 P w K mg base N qual (defScope st) f cdv A outer s H E).nox (defBody st) t/\VS ⟨cA,λj=>if j=0 then some (.inl a)else none⟩ [0] [0] [] [] t φ):FnOk P w K mg base CX0 (k+1) f fd ps (spI cA ps.length (runI N.length φ)):=by
 refine F.ok S (λvs H Q E h => ?_) λcdv A outer s H vs Q E hr h => ?_
 · obtain⟨x,r,av,ds,d,d',rfl,_,_,_,l,hl,_⟩:=h
   rw [<-hl,List.length_cons,List.length_cons,l.length]
 · obtain⟨x,r,av,ds,d,d',rfl,ha,nx,ho,l,hl,hm,q⟩:=h
   obtain⟨t,ht,hv⟩:=hbody cdv A outer s H E x hr;refine⟨t,ht,?_⟩;unfold runI at hm;cases hφ:φ ((d::ds).map some++List.replicate (N.length-(d::ds).length) none)with
   |none=>rw [hφ]at hm;cases hm
   |some o=>
    rw [hφ]at hm;cases o<;>first|(cases hm;done)|skip
    rename_i δ';have hm:Za 0 δ'=some d':=hm
    have hAV:∀b,AV av (λj=>if j=0 then some x else none) b ↔ av b\/b=x:=λb=>by
     constructor
     · rintro(z|⟨j,z⟩)
       · exact .inl z
       · by_cases e:j=0
         · simp [e]at z;exact .inr z.symm
         · simp [e]at z
     · rintro(z|z)
       · exact .inl z
       · exact .inr ⟨0,by simp [z]⟩
    have E0:ER ⟨cA,λj=>if j=0 then some (.inl x)else none⟩ [0] (λb=>if b=x then none else H b) av (λj=>if j=0 then some x else none) (L2.start N (.ref x::r)) H ((d::ds).map some++List.replicate (N.length-(d::ds).length) none):=by
     refine⟨λb o e => ?_,λa z => ?_,λi a e => ?_,λi j a e1 e2 => ?_,λi a e => ?_,λi e => ?_,λi hi => ?_,?_,(λi a e=>by
      by_cases q:i=0
      · simp [q]at e;simp [q,e]
      · simp [q]at e),(λi v e=>by
      by_cases q:i=0
      · simp [q]at e
      · simp [q]at e),λi d'' e => ?_⟩
     · by_cases q:b=x
       · simp [q]at e
       · simpa [q]using e
     · have:a≠x:=λq=>nx (q▸z)
       simp [this];exact ha a z
     · by_cases q:i=0
       · simp [q]at e;simp [e]
       · simp [q]at e
     · by_cases q:i=0
       · by_cases q2:j=0
         · rw [q,q2]
         · simp [q2]at e2
       · simp [q]at e1
     · by_cases q:i=0
       · simp [q]at e;subst e;exact ho.live
       · simp [q]at e
     · by_cases q:i=0
       · simp [q]
       · simp [q]at e
     · have:i=0:=by simpa using hi
       simp [this]
     · unfold L2.start
       rw [List.length_append,List.length_append,List.length_map,List.length_map,List.length_replicate,List.length_replicate,List.length_cons,List.length_cons,l.length]
     · by_cases q:i=0
       · subst q
         have e':d=d'':=by simpa using e
         subst e'
         exact⟨.ref x,by simp [L2.start],λz=>by simp at z,λa z=>by
          simp at z;subst z;exact⟨rfl,ho.av λb z => .inl ((hAV b).mp z)⟩⟩
       · obtain⟨i,rfl⟩:∃i',i=i'+1:=⟨i-1,by omega⟩
         have e2:(ds.map some++List.replicate (N.length-(ds.length+1)) none)[i]? = some (some d''):=by simpa using e
         by_cases hi:i<ds.length
         · rw [List.getElem?_append_left (by simpa using hi),List.getElem?_map]at e2
           cases hd:ds[i]? with
           |none=>rw [hd]at e2;cases e2
           |some z=>
            rw [hd]at e2;cases e2;obtain⟨v,hv',rv⟩:=l.get hd;refine⟨v,?_,λ_=>rv.av λb z => .inl ((hAV b).mp z),λa z=>by simp at z⟩;unfold L2.start;have:i+1<(V.ref x::r).length:=by rw [List.length_cons,<-l.length];omega
            rw [List.getElem?_append_left (by simpa using this),List.getElem?_map];simp [hv']
         · rw [List.getElem?_append_right (by simpa using hi),List.getElem?_replicate]at e2
           split at e2<;>cases e2
    refine hv _ av _ _ H _ E0 _ hφ _ λA' σ' H' E' => ?_
    have hA':A' 0=some x:=E'.pin 0 x (by simp);obtain⟨v,_,_,g3⟩:=E'.var 0 d' (Vk hm);obtain⟨_,ho'⟩:=g3 x hA';refine q H' (λb o hb e=>E'.same b o (by simpa [hb]using e)) (ho'.av λb z => ?_);rcases z with z|z
    · exact .inl (.inl z)
    · exact .inl (.inr ⟨0,by rw [hA',z]⟩)
theorem ZkD {x qual:Str} {st:Stmt} {f:Addr} {fd:FuncData} {N ps:List Str} {k:Nat} {φ:Env->Option Out} (F:FunX K x qual st f fd) (S:FnScope N ps (defScope st))
 (hbody:∀(cdv:Value)(A:Around)(outer:List PySem.Env)(s:Shared)(H:Hp)(E:XK),Room k (A.deeper (PyProof.Rows.envOfC qual (defScope st) s.heap.objs.size f cdv)) ->
   ∃t,PSs (YK CX0 P w K mg base N qual (defScope st) f cdv A outer s H E).nox (defBody st) t/\∃owN,VS ⟨cA,λ_=>none⟩ [] owN [] [] t φ):FnOk P w K mg base CX0 (k+1) f fd ps (spD cA ps.length (run N.length φ)):=by
 refine F.ok S (λvs H Q E h => ?_) λcdv A outer s H vs Q E hr h => ?_
 · obtain⟨av,ds,d,_,r,hl,_⟩:=h
   rw [<-r.length,hl]
 · obtain⟨av,ds,d,ha,r,hl,hm,q⟩:=h
   obtain⟨t,ht,owN,hv⟩:=hbody cdv A outer s H E hr;refine⟨t,ht,?_⟩;unfold run at hm;cases hφ:φ (ds.map some++List.replicate (N.length-ds.length) none)with
   |none=>rw [hφ]at hm;cases hm
   |some o=>
    rw [hφ]at hm;refine hv H av _ _ H _ (Jh ha r) o hφ _ ?_;cases o with
    |nx δ'=>cases hm;exact λA' σ' H' E'=>q .non H' E'.same rfl
    |rt d'=>cases hm;exact λv H' s' r'=>q v H' s' r'
    |bk δ'=>cases hm
    |ct δ'=>cases hm
end
abbrev MTab:=List (String×(Nat×(List D->Option D)))
structure MethOk(X:Cx)(cA:Kn)(k:Nat)(m:String)(c:String)(n:Nat)(mm:List D->Option D):Prop where
 ex:∃f fd ps,Cls X.K (cA.c c)/\Meth X.K (cA.c c) (Str.ofString m) f/\FnOk X.prog X.w X.K X.mg X.base CX0 k f fd ps (spD cA n mm)/\Binds X.K fd ps []
def MTOk(X:Cx)(cA:Kn)(k:Nat)(m:String):MTab->Prop
 | []=>True
 |(c,n,mm)::r=>MethOk X cA k m c n mm/\MTOk X cA k m r
theorem MTOk.get{X:Cx}{k:Nat}{m:String}:∀{tab:MTab}{c:String}{n:Nat}{mm:List D->Option D},MTOk X cA k m tab->tab.lookup c=some (n,mm)->MethOk X cA k m c n mm
 | [],_,_,_,_,h=>by simp at h
 |(c',n',mm')::r,c,n,mm,T,h=>by
  rw [List.lookup_cons]at h;cases hc:c == c' with
  |true=>
   rw [hc]at h;cases h;have:c=c':=eq_of_beq hc;subst this;exact T.1
  |false=>
   rw [hc]at h;exact MTOk.get T.2 h
def Zgu(cA:Kn)(m:String)(tab:MTab)(ta:TE)(t:TA):TE:=λσ H Q=>ta σ H λx H1=>∃a dx fs c n mm,x = .ref a/\H1 a=some (.ins (cA.c c) dx fs)/\fs.lookup (Str.ofString m)=none/\tab.lookup c=some (n,mm)/\t σ H1 λvs H2=>spD cA n mm (x::vs) H2 Q E0
theorem Za6 {X:Cx} {k:Nat} {m:String} {tab:MTab} {o:Expr} {ta:TE} {pos apos:Pos} {pl:Sem Bool} (T:MTOk X cA k m tab) (hr:Room k X.A) (he:PE X o ta)
 (ht:eval (.Call (.Attribute o (Str.ofString m) apos) [] [] pos) X.env=(do
   let ov <-eval o X.env
   standAt apos.atName
   let(f,first) <-holding [ov] (getMethod ov (Str.ofString m) pl)
   callWith pos f first (backTo pos (starEach [] X.env)) (backToKw pos (keywordEach [] X.env))):=by rfl) :
 PE X (.Call (.Attribute o (Str.ofString m) apos) [] [] pos) (Zgu cA m tab ta tNil):=by
 intro pins s σ H Q I h;refine PySem.W.methodCall_KW (pl:=pl) (thn (he pins s σ H _ I h) λu s1 ⟨x,H1,I1,rx,a,dx,fs,c,n,mm,ex,ea,l,tl,q⟩ => ?_) ht;subst ex;obtain rfl:u=Value.ref a:=rx;obtain⟨f,fd,ps,hc,hm,F,hb⟩:=(T.get tl).ex;refine ZdH I1 ea hc hm l ?_;exact PySem.W.callWith_K0 (first:=[.ref a]) I1.kIn hm.kp (ZcY (us:=[.ref a]) (vs:=[.ref a]) (dvs:=[]) (ds:=[]) F hr hb .nil Zv I1 (.cons rfl .nil) (by rw [List.append_nil];exact q))
def Z8(m:String)(tab:MTab)(a:Env->Option D)(α:Env->Option (List D))(δ:Env):Option D:=match a δ with
 |some (.obj c ks xs)=>if ks.contains m then none else(match tab.lookup c with
  |some (n,mm)=>match α δ with
   |some ds=>if(D.obj c ks xs::ds).length=n then mm (.obj c ks xs::ds)else none
   |none=>none
  |none=>none)
 |_=>none
theorem Ji{m:String}{tab:MTab}{ta:TE}{t:TA}{a:Env->Option D}{α:Env->Option (List D)}(ha:VE G ow ta .cl a)(h:VA G ow t .cl α):VE G ow (Zgu G.1 m tab ta t) .cl (Z8 m tab a α):=λH0 av A σ H δ E d e Q k=>by
 unfold Z8 at e;cases hx:a δ with
 |none=>rw [hx]at e;cases e
 |some x=>
  rw [hx]at e;cases x<;>first|(cases e;done)|skip
  rename_i c ks xs;dsimp only at e;cases hf:ks.contains m with
  |true=>rw [hf,if_pos rfl]at e;cases e
  |false=>
   rw [hf,if_neg Bool.false_ne_true]at e;cases htb:tab.lookup c with
   |none=>rw [htb]at e;cases e
   |some p=>
    obtain⟨n,mm⟩:=p;rw [htb]at e;dsimp only at e;cases he:α δ with
    |none=>rw [he]at e;cases e
    |some ds=>
     rw [he]at e;dsimp only at e
     by_cases hz:(D.obj c ks xs::ds).length=n
     · rw [if_pos hz]at e
       refine ha H0 av A σ H δ E _ hx _ λv H1 s1 r1 => ?_
       obtain⟨p,dx,vs,rfl,np,rd,zl,l⟩:=r1;refine⟨p,dx,_,c,n,mm,rfl,rd,Zdi hf,htb,h H0 av A σ H1 δ (E.mono s1) ds he _ λws H2 s2 r2 => ?_⟩;have E2:=(E.mono s1).mono s2;refine⟨AV av A,.obj c ks xs::ds,d,E2.avl,.cons ?_ r2.cl,hz,e,λv H' s r=>k v H' ((s1.trans s2).trans s) r.t⟩;unfold Rep;exact⟨p,dx,vs,rfl,np,s2 _ _ rd,zl,l.same s2⟩
     · rw [if_neg hz]at e;cases e
def isD:D->D->Option D
 | .bl a,.bl b=>some (.bl (a == b))
 |_,_=>none
end
end DL
namespace DL
open PySem PySem.Spec L2
def XX:Nat->List D->List D
 |_,[]=>[]
 |k,x::xs => .tup [.int (k:Nat),x]::XX (k+1) xs
theorem Jj:∀(k:Nat)(xs:List D),(XX k xs).length=xs.length
 |_,[]=>rfl
 |k,x::xs=>by rw [XX,List.length_cons,List.length_cons,Jj]
theorem Za7:∀(k:Nat)(xs:List D)(i:Nat),(XX k xs)[i]? = (xs[i]?).map λx => .tup [.int ((k+i:Nat):Int),x]
 |_,[],i=>by simp [XX]
 |k,x::xs,0=>by simp [XX]
 |k,x::xs,i+1=>by
  rw [XX,List.getElem?_cons_succ,List.getElem?_cons_succ,Za7 (k+1) xs i];have:k+1+i=k+(i+1):=by omega
  rw [this]
section
variable{cA:Kn}{G:Cn}{ow:List Nat}
theorem ZcM{iv:Addr->Prop}{H0:Hp}{n0:Nat}{cs:List Nat}:US cA iv (ZjZ n0 cs) (XX n0 (cs.map λc => .str [c])) H0:=λH s=>by
 refine⟨λi hi => ?_,λi x v H' hx y => ?_,λi hi => ?_⟩
 · have:i<cs.length:=by simpa [Jj]using hi
   exact this
 · obtain⟨c,p,hc,hp,rfl,rfl⟩:=y
   rw [Za7,List.getElem?_map,hc]at hx;cases hx;refine⟨Xa hp,λav' h1 _ => ?_⟩;unfold Rep;exact⟨p,_,rfl,λz=>h1 p z hp,Yo,.cons rfl (.cons rfl .nil)⟩
 · have:cs.length<=i:=by simpa [Jj]using hi
   exact this
end
end DL
namespace DL
open PySem PySem.Spec L2
section
variable{cA:Kn}{P:Program}{w:World}{K:PySem.W.Frag}{mg:Str->Option Value}{base:Heap}
theorem YZ {x qual:Str} {st:Stmt} {f:Addr} {fd:FuncData} {N ps:List Str} {k:Nat} {φ:Env->Option Out} {body:List Stmt} {scope:Scope} {n:Nat} {m:List D->Option D} (F:FunX K x qual st f fd) (S:FnScope N ps (defScope st)) (hS:defScope st=scope) (hB:defBody st=body)
 (hbody:∀(cdv:Value)(A:Around)(outer:List PySem.Env)(s:Shared)(H:Hp)(E:XK),Room k (A.deeper (PyProof.Rows.envOfC qual scope s.heap.objs.size f cdv)) ->
   ∃t,PSs (YK CX0 P w K mg base N qual scope f cdv A outer s H E).nox body t/\∃owN,VS ⟨cA,λ_=>none⟩ [] owN [] [] t φ)  (hm:m=run N.length φ) (hn:ps.length=n):FnOk P w K mg base CX0 (k+1) f fd ps (spD cA n m):=by
 subst hS hB hm hn;exact ZkD F S hbody
theorem UX {x qual:Str} {st:Stmt} {f:Addr} {fd:FuncData} {N ps:List Str} {k:Nat} {φ:Env->Option Out} {body:List Stmt} {scope:Scope} {n:Nat} {m:List D->Option D} (F:FunX K x qual st f fd) (S:FnScope N ps (defScope st)) (hS:defScope st=scope) (hB:defBody st=body)
 (hbody:∀(cdv:Value)(A:Around)(outer:List PySem.Env)(s:Shared)(H:Hp)(E:XK)(a:Addr),Room k (A.deeper (PyProof.Rows.envOfC qual scope s.heap.objs.size f cdv)) ->
   ∃t,PSs (YK CX0 P w K mg base N qual scope f cdv A outer s H E).nox body t/\VS ⟨cA,λj=>if j=0 then some (.inl a)else none⟩ [0] [0] [] [] t φ)  (hm:m=runI N.length φ) (hn:ps.length=n):FnOk P w K mg base CX0 (k+1) f fd ps (spI cA n m):=by
 subst hS hB hm hn;exact Zmi F S hbody
end
end DL
namespace L2
open PySem PySem.Spec PyProof.Rows
def ZR:Int->List Nat
 | .ofNat n=>Zl3 n
 | .negSucc n=>45::Zl3 (n+1)
theorem Zhe(i:Int):(toString i:Str)=tx (ZR i):=by
 rw [<-Zdb (toString i:Str)]
 congr 1
 cases i with
 |ofNat n=>exact PySem.W.KIN.signs_num n
 |negSucc n=>
  rw [signs_ofString];show("-" ++ Nat.repr (n+1)).toList.map Char.toNat=_;rw [String.toList_append,Nat.toList_repr,List.map_append];rfl
def rStrW:List V->Hp->VK->Prop:=λxs H Q=>(∃i:Int,xs=[.int i]/\i.natAbs<10 ^ 10/\Q (S (ZR i)) H)\/∃a,xs=[S a]/\Q (S a) H
theorem XY:Y9 X (.type "str") rStrW:=by
 intro pins s σ H xs us Q I rs h;rcases h with⟨i,rfl,hn,q⟩|⟨a,rfl,q⟩
 · refine Zcl pins s σ H _ us Q I rs ⟨i,rfl,?_,?_⟩
   · have h1 : i.natAbs.log2 < 40 := by
      by_cases h0:i.natAbs=0
      · rw [h0];decide
      · exact(Nat.log2_lt h0).mpr (Nat.lt_trans hn (by decide))
     omega
   · rw [Zhe]
     exact q
 · obtain⟨u,rfl,t,rfl⟩:=Xf rs
   exact PySem.P.str_of_str ⟨S a,H,I,⟨_,rfl⟩,q⟩
end L2
namespace DL
open PySem PySem.Spec L2
variable{cA:Kn}
def strW:List D->Option D
 | [.int n]=>if n.natAbs<10 ^ 10 then some (.str (ZR n))else none
 | [.str a]=>some (.str a)
 |_=>none
theorem Y7:Qm cA rStrW strW:=λi H ds vs d _ h e Q k=>by
 unfold strW at e
 split at e
 · rename_i n
   obtain⟨v,t,rfl,hx⟩:=il1 h;cases(show v=_ from hx)
   by_cases hz:n.natAbs<10 ^ 10
   · rw [if_pos hz]at e
     cases e;exact .inl ⟨n,rfl,hz,k _ H (Same.refl H) rfl⟩
   · rw [if_neg hz]at e;cases e
 · rename_i a
   obtain⟨v,t,rfl,hx⟩:=il1 h;cases(show v=_ from hx);cases e;exact .inr ⟨a,rfl,k _ H (Same.refl H) rfl⟩
 · cases e
end DL
namespace L2
open PySem PySem.Spec PySem.W PyProof.Rows
def bmV:List Value:=[.type "ValueError",.type "Exception",.type "BaseException",.type "object"]
theorem Zhf{K:PySem.W.Frag}{hp:Heap}{C:Addr}{tlB:List Value}{nid:String}(KX:K.In hp)(q0:excIn K C tlB nid=true) :
 ∃bm N nm q bs hdct sn sub ab col dd k0 k1 k2 k3 k5 mN,hp.get? C=some (excClassObj nm q C N bs bm hdct sn sub ab col dd k0 k1 k2 k3 k5 nid)/\hp.Ns N mN/\mN "__init__" = none/\OwnTail hp tlB bm:=by
 unfold excIn at q0
 split at q0
 · rename_i dict0 cls0 slots0 look0
   split at q0
   · rename_i C1 rest0 j0 j1 j2 j3 nid1 j5 mro0 sl0
     simp only [Bool.and_eq_true,beq_iff_eq,Bool.not_eq_true']at q0;have e1:C1=C:=q0.1.1.1.1.1;have e2:nid1=nid:=q0.1.1.1.1.2;have e3:=q0.1.1.1.2;have e4:=q0.1.1.2;have e5:=q0.1.2;have e6:=q0.2;subst e1 e2;cases cls0 with
     |mk f1 f2 f3 f4 f5 f6 f7 f8 f9 f10 f11=>
      dsimp only at mro0 e3 e5 e6;subst mro0 e3
      have es:slots0 = #[j0,j1,j2,j3,some (.builtin nid1),j5]:=by
       cases slots0 with
       |mk l=>exact congrArg Array.mk sl0
      subst es;exact⟨rest0,f4,f1,f5,f2,f6,f7,f8,f9,f10,dict0,j0,j1,j2,j3,j5,_,KX _ _ look0,.of_isNs (isNs_of_in KX e5),nsMap_none_of_in KX e5 e6,tail_of_in KX e4⟩
   · cases q0
 · cases q0
def Zes(X:Cx)(E:XK)(C:Addr):Prop:=∀(pins:List (Addr×Obj))(σ:St)(H:Hp)(s:Shared)(h':Heap)(e:Addr)(us:List Value),Inv X pins σ H s->Heap.MadeExcOf s.heap h' e (.ref C) us->E (.ref C) none H->X.xe (.ref e) { s with heap:=h' }
def Zgv(E:XK)(C:Addr)(t:TA):TS:=λ_ σ H=>t σ H λvs H1=>vs.length<=8/\E (.ref C) none H1
section
variable{X:Cx}{E:XK}{C:Addr}{x:Str}{p cpos pos:Pos}{e:Expr}{es:List Expr}{t:TA}
theorem ZfP (hg:Gl X x) (hm:X.mg x=some (.ref C)) (hq:excIn X.K C bmV "ValueError.__new__" = true) (hR:Zes X E C) (ha:PA X (e::es) t) (hc:X.calm=true:=by rfl)
 (he:starEach (e::es) X.env=(false,eval e X.env)::starEach es X.env:=by rfl) (hpl:(backTo cpos (starEach es X.env)).any (·.1)=false:=by rfl) (hdb:(x == ("__debug__" : Str))=false:=by decide) :
 PS X (.Raise (some (.Call (.Name x p) (e::es) [] cpos)) none pos) (Zgv E C t):=by
 intro pins s σ H D I h;obtain⟨tl,N,nm,q,bs,hdct,sn,sub,ab,col,dd,k0,k1,k2,k3,k5,mN,hC,hN,hni,T⟩:=Zhf I.ok.mod.kin hq
 refine wpAny_Raise_call_subT (C:=C) (nm:=nm) (q:=q) (N:=N) (bs:=bs) (bm:=tl) (hdct:=hdct) (sn:=sn) (sub:=sub) (ab:=ab) (col:=col) (dd:=dd) (k0:=k0) (k1:=k1) (k2:=k2) (k3:=k3) (k5:=k5)
  PySem.F.excBase_ValueError (mN:=mN) (T.hasType PySem.F.excBase_ValueError.hasBase) (I.ok.hd hc) (by rw [he];show(false||(backTo cpos (starEach es X.env)).any (·.1))=false;rw [hpl];rfl) hni (Ud I hg hm ⟨rfl,?_⟩ hdb)
 have h1:=ha cpos pins s σ H _ I h;rw [he]at h1 ⊢;refine Calls.evalArgs_plain (thn h1 λus s2 ⟨vs,H2,I2,r,hl,hE⟩=>⟨rfl,?_,I2.bk _ _ hC,hN.keeps I2.bk,T.keeps I2.bk,λh' ea hx => ?_⟩)
 · show us.length<=sizeLine
   rw [<-r.length];exact Nat.le_trans hl (by decide)
 · exact hR pins σ H2 s2 h' ea us I2 hx hE
end
theorem HOk.hide{P:Program}{w:World}{H:Hp}{h:Heap}{as:List Addr}(x:HOk P w H h)(hn:∀b∈as,H b=none):HOk P w H (hideAll h as):=λa o e=>
 (x a o e).stay (λb u hb q=>hideAll_get _ q λz=>by
   rcases hb with rfl|hb
   · rw [hn _ z]at e;cases e
   · rw [hn _ z]at hb;cases hb) (λ_ q=>q) λ_ _ q=>q
def CX1(P:Program)(w:World):CXT:=λouter H s E ev s'=>∃(ea:Addr) (cls a0:Value) (B:Heap) (H':Hp),ev = .ref ea/\s'.os=s.os/\AllBare s'.gens/\Heap.FlyingW B outer ea cls a0 s'.heap /\
 (∀b o,s.heap.get? b=some o->H b=none->b∉frs outer->B.get? b=some o)/\HOk P w H' B/\Same H H'/\(∀b o,s.heap.get? b=some o->H b=none->H' b=none)/\(∀b o,s.heap.get? b=some o->b∈frs outer->∃sl,s'.heap.get? b=some { o with slots:=sl })/\E cls none H'
section
variable{P:Program}{w:World}{K:PySem.W.Frag}{mg:Str->Option Value}{base:Heap}{N:List Str}{qual:Str}{scope:Scope}{f:Addr}{cd:Value}{A:Around}{outer:List Env}{s:Shared}{H:Hp}{E:XK}
theorem Zcr{C:Addr}:Zes (YK (CX1 P w) P w K mg base N qual scope f cd A outer s H E) (λc d H'=>Same H H'/\E c d H') C:=by
 intro pins σ H1 s1 h' e us I hx ⟨hsm,hw⟩;show wpAny (model P w) _ (leaving _ (.ref e)) _ _ _;have hin:∀env∈((YK (CX1 P w) P w K mg base N qual scope f cd A outer s H E).stack),∀b,env.frame=some b->b∈frs (YK (CX1 P w) P w K mg base N qual scope f cd A outer s H E).stack:=λenv he b hb=>List.mem_filterMap.mpr ⟨env,he,hb⟩
 have hfr:=I.ok.frames;have hfun:=funFrames_hide I.stack hin;have hfree:=I.stkFree;have hsub:=I.stkSub;refine wpAny_leaves_madeW (base:=hideAll s1.heap (frs (YK (CX1 P w) P w K mg base N qual scope f cd A outer s H E).stack)) (h:=s1.heap) (outer:=outer) hfr rfl (λb o q=>of_hideAll _ q) hfun hx λh2 t x1 x2 x3 x4 => ?_
 refine⟨e,.ref C,.ref t,_,H1,rfl,I.os,I.bare,x1,λb o q n hb => ?_,HOk.hide I.hok hfree,hsm,λb o q n=>I.base.free b o q n (λz=>nomatch z),λb o q hb => ?_,hw⟩
 · have q1:=I.base.keep b o q n hb (λz=>nomatch z)
   refine hideAll_get _ q1 λz => ?_
   rcases List.mem_cons.mp (hsub b z)with e'|z
   · have:=I.ok.above
     exact absurd (Heap.lt_size q) (Nat.not_lt.mpr (by rw [e'];exact this))
   · exact hb z
 · obtain⟨sl,q1⟩:=I.base.slot b o q (I.ok.frf b hb) hb (λz=>nomatch z)
   obtain⟨_,o',q2,hnf⟩:=I.ok.funs.mem hb;have:o'=o:=Option.some.inj (q2.symm.trans q);subst this;obtain⟨sl2,q4⟩:=x4 b _ (hx.keeps b _ q1) (show ∀vs,({ cls:=o'.cls,dict:=o'.dict,data:=o'.data,slots:=sl }:Obj).data ≠ .fields vs from hnf);exact⟨sl2,q4⟩
theorem ZcN:VW (CX1 P w) (YK (CX1 P w) P w K mg base N qual scope f cd A outer s H E) (λc d H'=>Same H H'/\E c d H'):=by
 intro pins σ H1 s1 ev s' I ⟨ea,cls,a0,B,H2,e,hos,hb,hfl,hKB,hok,hsame,hfree,hup,hS,hE⟩;subst e;show wpAny (model P w) _ (leaving _ (.ref ea)) _ _ _;refine wpAny_leaves_onW (outer:=outer) I.ok.frames rfl hfl λh2 y1 y2 => ?_
 refine⟨ea,cls,a0,B,H2,rfl,hos.trans I.os,hb,y1,λb o q n hn => ?_,hok,hS,λb o q n => ?_,λb o q hn => ?_,hE⟩
 · refine hKB b o (I.base.keep b o q n hn (λz=>nomatch z)) (I.base.free b o q n (λz=>nomatch z)) λz => ?_
   rcases List.mem_cons.mp (I.stkSub b z)with e'|z
   · exact absurd (Heap.lt_size q) (Nat.not_lt.mpr (by rw [e'];exact I.ok.above))
   · exact hn z
 · obtain⟨sl,q1⟩:=I.base.any q n (λz=>nomatch z)
   exact hfree b _ q1 (I.base.free b o q n (λz=>nomatch z))
 · obtain⟨sl,q1⟩:=I.base.slot b o q (I.ok.frf b hn) hn (λz=>nomatch z)
   obtain⟨_,o',q2,hnf⟩:=I.ok.funs.mem hn;have:o'=o:=Option.some.inj (q2.symm.trans q);subst this;obtain⟨sl',q3⟩:=hup b _ q1 (List.mem_cons_of_mem _ hn);obtain⟨sl2,q4⟩:=y2 b _ q3 (show ∀vs,({ cls:=o'.cls,dict:=o'.dict,data:=o'.data,slots:=sl' }:Obj).data ≠ .fields vs from hnf);exact⟨sl2,q4⟩
end
end L2
namespace L2
open PySem PySem.Spec PySem.W PyProof.Rows PySem.Calls PySem.Builtin PySem.Builtin.ObjectAttr PySem.Builtin.Getset_descriptor
def UY(e:Addr)(C:Value)(hp:Heap):Prop:=∃o:Obj,hp.get? e=some o/\o.cls=C
structure ExCls(K:PySem.W.Frag)(C:Addr):Prop where
 ex:excIn K C bmV "ValueError.__new__" = true
 ga:findIn K (.ref C) "__getattribute__" = some (some (.builtin "BaseException.__getattribute__"))
 mb:mroIn K C (.type "BaseException")=some true
 gt:findIn K (.ref C) "__getattr__" = some none
 ca:findIn K (.ref C) "__class__" = some (some (.builtin "object.__class__"))
 cg:specialIn K (.builtin "object.__class__") "__get__" = some (some (.builtin "getset_descriptor.__get__"))
 ct:takesIn K (.builtin "object.__class__")=some true
 mo:mroIn K C (.type "object")=some true
 cl:(clsIn K C).isSome=true
section
variable{P:Program}{w:World}{A:Around}{E:Value->Shared->Prop}{s:Shared}{K:PySem.W.Frag}{e C:Addr}
theorem ZiD{M:Model}{hp:Heap}(p:UY e (.ref C) hp):Looks M hp (typeOf (.ref e)) (.ref C):=by
 obtain⟨o,h1,h2⟩:=p;exact h2▸(Looks.ld h1).andThen .now
end
end L2
namespace L2
open PySem PySem.Spec PySem.W PyProof.Rows
theorem ObjOk.there{P:Program}{w:World}{H:Hp}{hp:Heap}{a:Addr}{o:HO}(x:ObjOk P w H hp a o):∃u,hp.get? a=some u:=by
 cases o with
 |lst xs=>obtain⟨_,_,_,_,e⟩:=x;exact⟨_,e⟩
 |tup xs=>obtain⟨_,_,_,ob,e,_⟩:=x;exact⟨_,e⟩
 |dK kvs=>obtain⟨_,_,_,_,o,_,_,e,_⟩:=x;exact⟨_,e⟩
 |dT kvs=>obtain⟨_,_,_,_,o,_,_,e,_⟩:=x;exact⟨_,e⟩
 |set S n=>obtain⟨o,_,_,_,e,_⟩:=x;exact⟨_,e⟩
 |ins C dx fs=>obtain⟨_,_,_,e,_⟩:=x;exact⟨_,e⟩
 |own y=>exact x
 |xd fs=>obtain⟨_,⟨_,_,_,e,_⟩,_⟩:=x;exact⟨_,e⟩
 |rng lo hi=>obtain⟨_,_,_,e⟩:=x;exact⟨_,e⟩
 |frz ob u=>obtain⟨e,_⟩:=x;exact⟨_,e⟩
 |tbl ps=>obtain⟨_,e,_⟩:=x;exact⟨_,e⟩
 |cod q=>obtain⟨_,_,_,_,e,g,_⟩:=x;cases e;exact⟨_,g⟩
 |fnc c q=>obtain⟨e,_⟩:=x;exact e
 |met f y=>exact⟨_,x⟩
 |ext φ=>exact x.2.1
section
variable{X:Cx}{pins:List (Addr×Obj)}{σ:St}{H H':Hp}{s s':Shared}{B hp:Heap}{ea:Addr}{C:Value}
theorem ZdP (I:Inv X pins σ H s) (hos:s'.os=s.os) (hbare:AllBare s'.gens) (hst:B.StaysIn s'.heap) (hea:B.get? ea=none) (hKB:∀b o,s.heap.get? b=some o->H b=none->b∉frs X.stack->B.get? b=some o)
 (hok:HOk X.prog X.w H' B) (hsame:Same H H') (hfree:∀b o,s.heap.get? b=some o->H b=none->H' b=none) (hup:∀b o,s.heap.get? b=some o->b∈frs X.stack->∃sl,s'.heap.get? b=some { o with slots:=sl })
 (hx:UY ea C s'.heap) (hnf:ea∉frs X.stack):Inv X pins σ (upd H' ea (.ext (UY ea C))) s'/\H' ea=none:=by
 have hn:H' ea=none:=by
  cases q:H' ea with
  |none=>rfl
  |some o=>
   obtain⟨u,e⟩:=(hok ea o q).there;rw [hea]at e;cases e
 have ne':∀b o,H' b=some o->b≠ea:=λb o q z=>by rw [z,hn]at q;cases q
 have hup':∀b o,H' b=some o->upd H' ea (.ext (UY ea C)) b=some o:=λb o q=>(Zx (ne' b o q)).trans q
 refine⟨I.call' (ch:=[]) hos ⟨λb o q n hb _=>hst b o (hKB b o q n hb),λb o q n hb _=>hup b o q hb,λb o q n _ => ?_,λb o q _ => ?_,λb xs q=>hup' b _ (hsame b _ q),λb ob u q=>hup' b _ (hsame b _ q),λb ps q=>⟨#[],by rw [hup' b _ (hsame b _ q)];simp⟩⟩ ?_ hbare (λb z=>nomatch z),hn⟩
 · by_cases hb:b∈frs X.stack
   · have hbe:b≠ea:=λz=>hnf (by rw [<-z];exact hb)
     rw [Zx hbe];exact hfree b o q n
   · have:=hKB b o q n hb
     have hbe:b≠ea:=λz=>by rw [z,hea]at this;cases this
     rw [Zx hbe];exact hfree b o q n
 · by_cases hb:b∈frs X.stack
   · obtain⟨sl,e⟩:=hup b o q hb
     exact⟨_,e⟩
   · cases n:H b with
     |none=>exact⟨o,hst b o (hKB b o q n hb)⟩
     |some u=>
      obtain⟨v,e⟩:=(hok b u (hsame b u n)).there;exact⟨v,hst b v e⟩
 · intro a o q
   by_cases ha:a=ea
   · subst ha
     rw [Yo]at q;cases q;obtain⟨ob,h1,h2⟩:=hx;exact⟨⟨ob,h1,h2⟩,⟨ob,h1⟩,λg1 g2 ⟨o1,a1,a2⟩ k=>⟨o1,k o1 a1,a2⟩⟩
   · rw [Zx ha]at q
     exact(hok a o q).stay (λb u _ e=>hst b u e) (λb e=>hup' b _ e) (λb xs e=>hup' b _ e) λb ob xs e=>hup' b _ e
end
abbrev Cx.suite(X:Cx)(ea:Addr):Cx:={ X with A:=X.A.mark (some (.ref ea)),calm:=false,xe:=λ_ _=>False }
theorem Inv.suite{X:Cx}{pins:List (Addr×Obj)}{σ:St}{H:Hp}{s:Shared}(I:Inv X pins σ H s)(ea:Addr):Inv (X.suite ea) pins σ H s:=
 ⟨⟨I.ok.mod,I.ok.kind,I.ok.glob,I.ok.blt,I.ok.above,I.ok.inj,I.ok.has,I.ok.cab,(λz=>nomatch z),I.ok.frames,I.ok.stk,I.ok.exf,I.ok.bs,I.ok.bsz,I.ok.noex,I.ok.exfs,I.ok.funs,I.ok.frf,I.ok.tb⟩,I.os,I.bare,I.base,I.loc,I.cell,I.free,I.freeC,I.pin,I.hok,I.len,I.fzs⟩
theorem Inv.unsuite{X:Cx}{pins:List (Addr×Obj)}{σ:St}{H:Hp}{s:Shared}{ea:Addr}(ok:X.Ok)(I:Inv (X.suite ea) pins σ H s):Inv X pins σ H s:=
 ⟨ok,I.os,I.bare,I.base,I.loc,I.cell,I.free,I.freeC,I.pin,I.hok,I.len,I.fzs⟩
def PEx(X:Cx)(E:XK)(e:Expr)(t:TE):Prop:=∀(pins:List (Addr×Obj))(s:Shared)(σ:St)(H:Hp)(Q:VK)(xe:Value->Shared->Prop),Inv X pins σ H s->t σ H Q ->
 (∀H2 s2 ev s',Inv X pins σ H2 s2->CX1 X.prog X.w X.stack H2 s2 E ev s'->xe ev s')->wpAny (model X.prog X.w) X.A (eval e X.env) (EP X pins σ Q) xe s
def PSx(X:Cx)(E:XK)(st:List Stmt)(t:TS):Prop:=∀(pins:List (Addr×Obj))(s:Shared)(σ:St)(H:Hp)(D:Ends)(xe:Value->Shared->Prop),Inv X pins σ H s->t D σ H ->
 (∀H2 s2 ev s',Inv X pins σ H2 s2->CX1 X.prog X.w X.stack H2 s2 E ev s'->xe ev s')->wpAny (model X.prog X.w) X.A (execs st X.env) (SP X pins D) xe s
section
variable{X:Cx}{E:XK}
theorem Zdj {k:Nat} {f:Addr} {fd:FuncData} {ps:List Str} {sp:Sp} {dvs:List V} {ds:List Value} {x:Str} {p pos:Pos} {e:Expr} {es:List Expr} {t:TA}
 (F:FnOk X.prog X.w X.K X.mg X.base (CX1 X.prog X.w) k f fd ps sp) (hr:Room k X.A) (hg:Gl X x) (hm:X.mg x=some (.ref f)) (hk:keepIn X.K (.ref f)=true) (hb:Binds X.K fd ps ds) (hd:Vals dvs ds) (h0:∀e s,¬X.xe e s) (ha:PA X (e::es) t)
 (hdb:(x == ("__debug__" : Str))=false:=by decide) (he:starEach (e::es) X.env=(false,eval e X.env)::starEach es X.env:=by rfl) (hpl:(backTo pos (starEach es X.env)).any (·.1)=false:=by rfl) :
 PEx X E (.Call (.Name x p) (e::es) [] pos) (UK sp dvs E t):=by
 intro pins s σ H Q xe I h hx;refine wpAny_Call_Name_kw (Ud I hg hm ?_ hdb);refine PySem.W.callWith_K (h₀:=X.base) I.ok.mod.kin hk (wpAny_mono (ha pos pins s σ H _ I h) (λus s1 ⟨vs,H1,I1,r,q⟩=>⟨I1.kIn,?_⟩) λe s z=>(h0 e s z).elim) he hpl;have r2:Vals (vs++dvs) (us++ds):=r.append hd;have hl:(us++ds).length=ps.length:=by rw [<-r2.length];exact F.len _ _ _ _ q
 refine wpAny_call (codeAny_mono (F.run X.A X.stack s1 H1 ⟨us,[]⟩ (us++ds) (vs++dvs) Q E hr I1.env0 (hb s1 us I1.kIn hl) r2 q) λr' s' hq => ?_);cases r' with
 |error ev=>exact hx H1 s1 ev s' I1 hq
 |ok fl=>
  cases fl with
  |ret u=>exact I1.after hq
  |next=>exact False.elim hq
  |brk=>exact False.elim hq
  |cont=>exact False.elim hq
theorem Zdk{e:Expr}{te:TE}{pos:Pos}(he:PEx X E e te)(hs:swapsWith e none pos.line X.env=pure false:=by rfl):PSx X E [.Expr e pos] (UI te):=by
 intro pins s σ H D xe I h hx;refine wpAny_execs_cons (thn (Q:=SP X pins D) (wpAny_Expr_any (thn (he pins s σ H _ xe I h hx) λv s1 ⟨x,H1,I1,r1,q1⟩=>⟨σ,H1,I1,q1⟩) I.quiet hs) λf s1 q => ?_);cases f with
 |next=>exact wpAny_execs_nil q
 |ret v=>exact q
 |brk=>exact q
 |cont=>exact q
end
end L2
namespace L2
open PySem PySem.Spec PySem.W PyProof.Rows
section
variable{X:Cx}{G:Addr}{g n:Str}{i:Nat}{body suite:List Stmt}{b₀:Stmt}{gp hpos pos:Pos}{tb:XK->TS}{ts:Addr->Addr->TS}
end
end L2
namespace DL
open PySem PySem.Spec L2
def spX(cA:Kn)(n:Nat)(m:List D->Option D)(x:List D->Option String):Sp:=λvs H Q E=>spD cA n m vs H Q E \/
 ∃(av:Addr->Prop) (ds:List D) (c:String),(∀a,av a->H a≠none)/\RepL cA av H ds vs/\ds.length=n/\x ds=some c/\∀H',Same H H'->E (.ref (cA.c c)) none H'
def Qw(N:Nat)(χ:Env->Option String)(ds:List D):Option String:=χ (ds.map some++List.replicate (N-ds.length) none)
def VX(G:Cn)(ow:List Nat)(E:XK)(ts:TS)(χ:Env->Option String):Prop:=
 ∀H0 av A σ H δ,ER G ow H0 av A σ H δ->∀c,χ δ=some c->(∀H',Same H0 H'->E (.ref (G.1.c c)) none H')->∀De:Ends,ts De σ H
def VXe(G:Cn)(ow:List Nat)(E:XK)(te:TE)(χ:Env->Option String):Prop:=
 ∀H0 av A σ H δ,ER G ow H0 av A σ H δ->∀c,χ δ=some c->(∀H',Same H H'->E (.ref (G.1.c c)) none H')->∀Q:VK,te σ H Q
def VXs(G:Cn)(ow:List Nat)(E:XK)(ts:TS)(χ:Env->Option String):Prop:=
 ∀H0 av A σ H δ,ER G ow H0 av A σ H δ->∀c,χ δ=some c->(∀H',Same H H'->E (.ref (G.1.c c)) none H')->∀De:Ends,ts De σ H
section
variable{cA:Kn}{G:Cn}{ow ow1 owB owC owN:List Nat}{E:XK}
def xNever(_:Env):Option String:=none
theorem Qx{ts:TS}:VX G ow E ts xNever:=λH0 av A σ H δ R c e=>nomatch e
def Zd7(c:String)(α:Env->Option (List D))(δ:Env):Option String:=match α δ with
 |some ds=>if ds.length<=8 then some c else none
 |none=>none
theorem ZfQ{C:Addr}{t:TA}{q:Ql}{α:Env->Option (List D)}(c:String)(hC:C=G.1.c c)(h:VA G ow t q α):VX G ow E (Zgv E C t) (Zd7 c α):=λH0 av A σ H δ R c' e k De=>by
 unfold Zd7 at e;cases he:α δ with
 |none=>rw [he]at e;cases e
 |some ds=>
  rw [he]at e;dsimp only at e
  by_cases hz:ds.length<=8
  · rw [if_pos hz]at e
    cases e;subst hC;exact h H0 av A σ H δ R ds he _ λvs H1 s1 r1=>⟨by rw [<-r1.any.length];exact hz,k H1 (R.same.trans s1)⟩
  · rw [if_neg hz]at e;cases e
def XZ(χ:Env->Option String)(φ:Env->Option Out)(ψ:Env->Option String)(δ:Env):Option String:=match χ δ with
 |some c=>some c
 |none=>match φ δ with
  |some (.nx δ1)=>ψ δ1
  |_=>none
theorem Qy{t u:TS}{χ ψ:Env->Option String}{φ:Env->Option Out}(h1:VX G ow E t χ)(hv:VS G ow ow1 owB owC t φ)(h2:VX G ow1 E u ψ):VX G ow E (J5 t u) (XZ χ φ ψ):=λH0 av A σ H δ R c e k De=>by
 unfold XZ at e;cases hx:χ δ with
 |some c'=>
  rw [hx]at e;cases e;exact h1 H0 av A σ H δ R c hx k _
 |none=>
  rw [hx]at e;dsimp only at e;cases hp:φ δ with
  |none=>rw [hp]at e;cases e
  |some o=>
   rw [hp]at e;cases o with
   |nx δ1=>exact hv H0 av A σ H δ R _ hp _ λA' σ' H' R'=>h2 H0 av A' σ' H' δ1 R' c e k De
   |rt d=>cases e
   |bk δ1=>cases e
   |ct δ1=>cases e
theorem VXs.vx{ts:TS}{χ:Env->Option String}(h:VXs G ow E ts χ):VX G ow E ts χ:=λH0 av A σ H δ R c e k De=>h H0 av A σ H δ R c e (λH' s=>k H' (R.same.trans s)) De
theorem Zdl{te:TE}{χ:Env->Option String}(h:VXe G ow E te χ):VXs G ow E (UI te) χ:=λH0 av A σ H δ R c e k De=>h H0 av A σ H δ R c e k _
theorem Zhg{te:TE}{χ:Env->Option String}{g:TG}(h:VXe G ow E te χ):VXs G ow E (Qi te g) χ:=λH0 av A σ H δ R c e k De=>h H0 av A σ H δ R c e k _
theorem Zhh{te:TE}{χ:Env->Option String}(h:VXe G ow E te χ):VXs G ow E (J6 te) χ:=λH0 av A σ H δ R c e k De=>h H0 av A σ H δ R c e k _
theorem Ui{n:Nat}{m:List D->Option D}{x:List D->Option String}{t:TA}{q:Ql}{α:Env->Option (List D)}{E0:XK}(dds:List D)(hd:dds.all ZY=true)(h:VA G ow t q α):VE G ow (UK (spX G.1 n m x) (dds.map val) E0 t) q.cq (Zm n m dds α):=λH0 av A σ H δ R d e Q k=>by
 unfold Zm at e;cases he:α δ with
 |none=>rw [he]at e;cases e
 |some ds=>
  rw [he]at e;dsimp only at e
  by_cases hz:(ds++dds).length=n
  · rw [if_pos hz]at e
    refine h H0 av A σ H δ R ds he _ λvs H1 s1 r1 => .inl ?_
    have E1:=R.mono s1;cases q with
    |cl=>exact⟨AV av A,ds++dds,d,E1.avl,r1.cl.append (.of_vals hd),hz,e,λv H' s r=>k v H' (s1.trans s) r.t⟩
    |tp=>exact⟨av,ds++dds,d,E1.avH,r1.any.append (.of_vals hd),hz,e,λv H' s r=>k v H' (s1.trans s) r.t⟩
    |dt=>exact⟨av,ds++dds,d,E1.avH,r1.any.append (.of_vals hd),hz,e,λv H' s r=>k v H' (s1.trans s) r.t⟩
  · rw [if_neg hz]at e;cases e
def Uj(n:Nat)(x:List D->Option String)(dds:List D)(α:Env->Option (List D))(δ:Env):Option String:=match α δ with
 |some ds=>if(ds++dds).length=n then x (ds++dds)else none
 |none=>none
theorem ZaX{n:Nat}{m:List D->Option D}{x:List D->Option String}{t:TA}{q:Ql}{α:Env->Option (List D)}(dds:List D)(hd:dds.all ZY=true)(h:VA G ow t q α):VXe G ow E (UK (spX G.1 n m x) (dds.map val) E t) (Uj n x dds α):=λH0 av A σ H δ R c e k Q=>by
 unfold Uj at e;cases he:α δ with
 |none=>rw [he]at e;cases e
 |some ds=>
  rw [he]at e;dsimp only at e
  by_cases hz:(ds++dds).length=n
  · rw [if_pos hz]at e
    refine h H0 av A σ H δ R ds he _ λvs H1 s1 r1 => .inr ⟨av,ds++dds,c,(R.mono s1).avH,r1.any.append (.of_vals hd),hz,e,λH' s=>k H' (s1.trans s)⟩
  · rw [if_neg hz]at e;cases e
end
section
variable{P:Program}{w:World}{K:PySem.W.Frag}{mg:Str->Option Value}{base:Heap}{cA:Kn}
theorem ZgR {x qual:Str} {st:Stmt} {f:Addr} {fd:FuncData} {N ps:List Str} {k:Nat} {φ:Env->Option Out} {χ:Env->Option String} {body:List Stmt} {scope:Scope} {n:Nat} {m:List D->Option D} {xm:List D->Option String} (F:FunX K x qual st f fd) (S:FnScope N ps (defScope st)) (hS:defScope st=scope) (hB:defBody st=body)
 (hbody:∀(cdv:Value)(A:Around)(outer:List PySem.Env)(s:Shared)(H:Hp)(E:XK),Room k (A.deeper (PyProof.Rows.envOfC qual scope s.heap.objs.size f cdv)) ->
   ∃t,PSs (YK (CX1 P w) P w K mg base N qual scope f cdv A outer s H E) body t/\∃owN,VS ⟨cA,λ_=>none⟩ [] owN [] [] t φ/\VX ⟨cA,λ_=>none⟩ [] (λc d H'=>Same H H'/\E c d H') t χ) (hm:m=run N.length φ) (hx:xm=Qw N.length χ) (hn:ps.length=n) :
 FnOk P w K mg base (CX1 P w) (k+1) f fd ps (spX cA n m xm):=by
 subst hS hB hm hx hn;obtain⟨oc,od,dV,kV,doc,pm,an,cdv,ct,osl,rfl,lk,hcd⟩:=F.ex;refine ZgN lk hcd S (λvs H Q E h => ?_) λA outer s H vs Q E hr h => ?_
 · rcases h with⟨av,ds,d,_,r,hl,_⟩|⟨av,ds,c,_,r,hl,_⟩
   · rw [<-r.length,hl]
   · rw [<-r.length,hl]
 · obtain⟨t,ht,owN,hv,hX⟩:=hbody cdv A outer s H E hr
   refine⟨t,ht,?_⟩;rcases h with⟨av,ds,d,ha,r,hl,hm,q⟩|⟨av,ds,c,ha,r,hl,hm,q⟩
   · unfold run at hm
     cases hφ:φ (ds.map some++List.replicate (N.length-ds.length) none)with
     |none=>rw [hφ]at hm;cases hm
     |some o=>
      rw [hφ]at hm;refine hv H av _ _ H _ (Jh ha r) o hφ _ ?_;cases o with
      |nx δ'=>cases hm;exact λA' σ' H' E'=>q .non H' E'.same rfl
      |rt d'=>cases hm;exact λv H' s' r'=>q v H' s' r'
      |bk δ'=>cases hm
      |ct δ'=>cases hm
   · exact hX H av _ _ H _ (Jh ha r) c hm (λH' s'=>⟨s',q H' s'⟩) _
end
end DL
namespace DL
open PySem PySem.Spec L2
def Zmj(K:PySem.W.Frag)(cA:Kn)(v:V)(tab:List (String×Bool)):Prop:=∀c b,tab.lookup c=some b->∃cv,(∀u,RelV v u->u=cv)/\kitOne K (.ref (cA.c c)) cv=some b
inductive IsiEs(K:PySem.W.Frag)(cA:Kn):List V->List (List (String×Bool))->Prop where
 |nil:IsiEs K cA [] []
 |cons {v:V} {t:List (String×Bool)} {vs:List V} {ts:List (List (String×Bool))}:Zmj K cA v t->IsiEs K cA vs ts->IsiEs K cA (v::vs) (t::ts)
section
variable{cA:Kn}{G:Cn}{ow owB owC:List Nat}
theorem ER.none{H0 H:Hp}{av:Addr->Prop}{A:Nat->Option Addr}{σ:L2.St}{δ:Env}{i:Nat}{x:Option V}(R:ER G ow H0 av A σ H δ)(hi:ow.contains i=false)(hn:G.2 i=Option.none):ER G ow H0 av A (σ.set i x) H (δ.set i Option.none):=
 ⟨R.same,R.avd,R.fr,R.inj,R.live,R.dom,R.dom',by rw [List.length_set,List.length_set];exact R.len,R.pin,(λj v' e=>by
   have q:j≠i:=λz=>by rw [z,hn]at e;cases e
   rw [List.getElem?_set_ne (Ne.symm q)];exact R.kept j v' e),λj d e=>by
   have hj:j≠i:=by
    intro z;subst z
    by_cases hl:j<δ.length
    · rw [List.getElem?_set_self hl]at e;cases e
    · rw [List.getElem?_eq_none (by rw [List.length_set];omega)]at e;cases e
   rw [List.getElem?_set_ne (Ne.symm hj)]at e;obtain⟨v,h1,h2⟩:=R.var j d e;exact⟨v,by rw [List.getElem?_set_ne (Ne.symm hj)];exact h1,h2⟩⟩
end
end DL
namespace DL
open PySem PySem.Spec L2 PyProof.Rows
def Wd(i:Int):Prop:=i.natAbs<2 ^ 8000
instance (i:Int):Decidable (Wd i):=by unfold Wd;infer_instance
def CMulW(i j:Int):Prop:=(Wd i/\Wd j)\/CMul i j
instance (i j:Int):Decidable (CMulW i j):=by unfold CMulW;infer_instance
def ZhW(_ j:Int):Prop:=j≠0/\Wd j
instance (i j:Int):Decidable (ZhW i j):=by unfold ZhW;infer_instance
instance (i j:Int):Decidable (ZlV i j):=by unfold ZlV;infer_instance
theorem ZiE{i:Int}(h:Wd i)(h0:i≠0):i.natAbs.log2<8000:=(Nat.log2_lt (by omega)).mpr h
theorem CMulW.ok{i j:Int}(h:CMulW i j):IntMulOk i j:=by
 rcases h with⟨h1,h2⟩|h
 · have bits : ∀ {a : Int}, Wd a -> Builtin.Int.intBits a <= 2 ^ 20 := fun {a} ha => by
    unfold Builtin.Int.intBits
    by_cases h0:a=0
    · subst h0;decide
    · have:=ZiE ha h0
      have e:(2:Nat) ^ 20=1048576:=by decide
      rw [e]
      split<;>omega
   exact .of_bits (bits h1) (bits h2)
 · exact h.ok
section
variable{X:Cx}{cA:Kn}
end
end DL
namespace L2
open PySem PySem.Spec PyProof.Rows
section
variable{X:Cx}
def ZhX(K:PySem.W.Frag):R2:=λx y H Q=>∃l b xs zs,x = .ref l/\y = .ref b/\SqL K H l xs/\SqL K H b zs/\xs.length+zs.length<=sizeLine/\∀p,H p=none->Q (.ref p) (upd H p (.lst (xs++zs)))
theorem Zhi:OpR X (binaryOp .Add) (ZhX X.K):=by
 intro pins s σ H x y v u Q I rx ry h;obtain⟨l,b,xs,zs,rfl,rfl,hH,hB,hz,q⟩:=h;cases rx;cases ry;obtain⟨its,r,pl,_⟩:=I.list hH;obtain⟨its2,r2,pl2,_⟩:=I.list hB;obtain⟨⟨c1,d1,da1,sl1⟩,n1,g1,e1,e2,e3⟩:=pl;obtain⟨⟨c2,d2,da2,sl2⟩,n2,g2,f1,f2,f3⟩:=pl2;dsimp only at e1 e2 e3 f1 f2 f3;subst e1 e2 e3 f1 f2 f3;have hl:=r.length;have hl2:=r2.length;refine concat_meets ⟨_,g1,rfl⟩ ⟨_,g2,rfl⟩ noFill_list_add seq_list_add PySem.F.slot_list_add PySem.F.entry_list_add (PySem.F.args_list_add_2 _ _) (list_addW l b its.toArray its2.toArray n1 n2 none none sl1 sl2 (by rw [List.size_toArray,List.size_toArray];omega)) ⟨g1,g2,?_⟩
 have ea:its.toArray++its2.toArray=(its++its2).toArray:=by simp
 rw [ea];exact⟨.ref _,_,I.lnew (t':=s.toks) (r.append r2) (by rw [List.length_append];omega),rfl,q _ I.fresh⟩
def ZgS(K:PySem.W.Frag):R2:=λx y H Q=>rI0 (λi j => .int (i+j)) x y H Q\/rAddS x y H Q\/ZhX K x y H Q
theorem Zhj:OpR X (binaryOp .Add) (ZgS X.K):=op_add.or (op_addS.or Zhi)
theorem Jk{K:PySem.W.Frag}(hK:X.K=K:=by rfl):OpR X (binaryOp .Add) (ZgS K):=hK▸Zhj
end
end L2
namespace DL
open PySem PySem.Spec L2
section
variable{cA:Kn}{G:Cn}{ow owB owC:List Nat}
def Zj0:D->D->Option D
 | .lst a,.lst b=>if a.length+b.length<=sizeLine then some (.lst (a++b))else none
 |x,y=>addD x y
end
end DL
namespace L2
open PySem PySem.W
theorem Zd8{P:Program}{w:World}{X:Cx}:VW (CX1 P w) X E0:=λ_ _ _ _ _ _ _ ⟨_,_,_,_,_,_,_,_,_,_,_,_,_,_,hE⟩=>hE.elim
theorem ZdQ{K:PySem.W.Frag}{C:Addr}{tlB:List Value}{nid:String}(q0:excIn K C tlB nid=true):(clsIn K C).isSome=true:=by
 unfold excIn at q0
 split at q0
 · rename_i look0
   unfold clsIn;rw [look0];rfl
 · cases q0
theorem ExCls.of {K:PySem.W.Frag} {C:Addr} (ex:excIn K C bmV "ValueError.__new__" = true) (ga:findIn K (.ref C) "__getattribute__" = some (some (.builtin "BaseException.__getattribute__"))) (mb:mroIn K C (.type "BaseException")=some true) (gt:findIn K (.ref C) "__getattr__" = some none) (ca:findIn K (.ref C) "__class__" = some (some (.builtin "object.__class__")))
 (cg:specialIn K (.builtin "object.__class__") "__get__" = some (some (.builtin "getset_descriptor.__get__"))) (ct:takesIn K (.builtin "object.__class__")=some true) (mo:mroIn K C (.type "object")=some true):ExCls K C:=⟨ex,ga,mb,gt,ca,cg,ct,mo,ZdQ ex⟩
end L2
namespace DL
open L2
theorem VX.frz{G:Cn}{ow ow1:List Nat}{E:XK}{t:TS}{χ:Env->Option String}(i:Nat)(h:VX G ow1 E t χ)(hn:G.2 i=none)(h1:sub ow1 ow=true)(h2:ow1.contains i=false)(h3:sub ow (i::ow1)=true):VX G ow E t χ:=λH0 av A σ H δ R c e k De=>
 h H0 av _ σ H δ (R.freeze i (Za5 h1 h2 h3) hn) c e k De
end DL
namespace L2
open PySem
end L2
namespace L2
open PySem
end L2
namespace L2
open PySem PySem.Spec PySem.W PyProof.Rows
section
variable{X:Cx}{e:Expr}{te:TE}{pos:Pos}
inductive PJ(X:Cx):List Expr->List TE->Prop where
 |nil:PJ X [] []
 |cons {e:Expr} {es:List Expr} {t:TE} {ts:List TE}:PE X e t->PJ X es ts->PJ X (e::es) (t::ts)
end
end L2
namespace DL
open PySem PySem.Spec L2
section
variable{G:Cn}{ow:List Nat}
inductive VJ(G:Cn)(ow:List Nat):List TE->List (Env->Option D)->Prop where
 |nil:VJ G ow [] []
 |cons {t:TE} {a:Env->Option D} {ts:List TE} {as:List (Env->Option D)}:VE G ow t .cl a->VJ G ow ts as->VJ G ow (t::ts) (a::as)
end
end DL
namespace L2
open PySem PySem.Spec PySem.W PyProof.Rows
section
variable{X:Cx}{E:XK}
end
end L2
namespace DL
open PySem PySem.Spec L2
abbrev XTab:=List (String×(Nat×(List D->Option D)×(List D->Option String)))
structure MethOkX(X:Cx)(cA:Kn)(k:Nat)(m:String)(c:String)(n:Nat)(mm:List D->Option D)(xm:List D->Option String):Prop where
 ex:∃f fd ps,Cls X.K (cA.c c)/\Meth X.K (cA.c c) (Str.ofString m) f/\FnOk X.prog X.w X.K X.mg X.base (CX1 X.prog X.w) k f fd ps (spX cA n mm xm)/\Binds X.K fd ps []
def MTOkX(X:Cx)(cA:Kn)(k:Nat)(m:String):XTab->Prop
 | []=>True
 |(c,n,mm,xm)::r=>MethOkX X cA k m c n mm xm/\MTOkX X cA k m r
theorem MTOkX.get{X:Cx}{cA:Kn}{k:Nat}{m:String}:∀{tab:XTab}{c:String}{n:Nat}{mm:List D->Option D}{xm:List D->Option String},MTOkX X cA k m tab->tab.lookup c=some (n,mm,xm)->MethOkX X cA k m c n mm xm
 | [],_,_,_,_,_,h=>by simp at h
 |(c',n',mm',xm')::r,c,n,mm,xm,T,h=>by
  rw [List.lookup_cons]at h;cases hc:c == c' with
  |true=>
   rw [hc]at h;cases h;have:c=c':=eq_of_beq hc;subst this;exact T.1
  |false=>
   rw [hc]at h;exact MTOkX.get T.2 h
section
variable{X:Cx}{cA:Kn}{k:Nat}{m:String}{tab:XTab}{o e:Expr}{es:List Expr}{ta:TE}{t:TA}{pos apos:Pos}{pl:Sem Bool}{E:XK}
end
section
variable{cA:Kn}{G:Cn}{ow ow1 owB owC owN:List Nat}{E:XK}
end
end DL
namespace L2
open PySem PySem.Spec PySem.W PyProof.Rows
theorem Zbv:∀(cs:List Nat)(its:List Value),its.length=cs.length->(∀(j:Nat)(v:Value),its[j]? = some v->∃(c:Nat) (u:Tok),cs[j]? = some c/\v=Value.str ⟨#[c]⟩ u)->Vals (cs.map λc=>S [c]) its
 | [],[],_,_ => .nil
 |c::cs,[],h,_=>by simp at h
 | [],v::its,h,_=>by simp at h
 |c::cs,v::its,h,k=>by
  refine .cons ?_ (Zbv cs its (by simpa using h) λj v hj=>by simpa using k (j+1) v (by simpa using hj));obtain⟨c',u,e1,e2⟩:=k 0 v rfl;cases e1;exact⟨u,e2⟩
def ZhY(K:PySem.W.Frag):List V->Hp->VK->Prop:=λxs H Q=>Ziy K xs H Q\/∃cs,xs=[S cs]/\cs.length<=sizeLine/\∀l,H l=none->Q (.ref l) (upd H l (.lst (cs.map λc=>S [c])))
theorem ZdR{X:Cx}{K:PySem.W.Frag}(hc:X.calm=true:=by rfl)(hK:X.K=K:=by rfl):Y9 X (.type "list") (ZhY K):=by
 subst hK;intro pins s σ H xs us Q I r h;rcases h with h|⟨cs,rfl,hz,q⟩
 · exact Zcp pins s σ H xs us Q I r h
 · obtain⟨u,rfl,rx⟩:=Xf r
   obtain⟨t,rfl⟩:=rx;refine call_list_str (I.ok.hd hc) (tx cs) t (λh' tk acc' c' kp e hi => ?_) (by simpa using hz)
   have hv:Vals (cs.map λc=>S [c]) acc'.toList:=Zbv cs _ (by simpa using hi.1) λj v hj=>by
    obtain⟨c,u,e1,e2⟩:=hi.2 j v (by simpa using hj);exact⟨c,u,by simpa using e1,e2⟩
   exact⟨.ref s.heap.objs.size,_,I.laid (t':=tk) kp (Nat.le_refl _) (show ObjOk X.prog X.w _ h' _ (.lst _)from⟨by rw [List.length_map];exact hz,acc'.toList,c',hv,e⟩),rfl,q _ (I.hok.fresh (Nat.le_refl _))⟩
end L2
namespace DL
open PySem PySem.Spec L2
def Zfp:List D->Option D
 | [.str cs]=>if cs.length<=sizeLine then some (.lst (cs.map λc => .str [c]))else none
 |ds=>ZhV ds
section
variable{G:Cn}{ow:List Nat}
theorem Zbw{cA:Kn}{av:Addr->Prop}{H:Hp}:∀cs:List Nat,RepL cA av H (cs.map λc=>D.str [c]) (cs.map λc=>S [c])
 | [] => .nil
 |c::cs => .cons rfl (Zbw cs)
theorem ZfR{t:TA}{q:Ql}{α:Env->Option (List D)}(hq:q = .cl\/q = .tp)(h:VA G ow t q α):VF G ow (tCB (ZhY G.1.K) t) (eCB Zfp α):=λH0 av A σ H δ E d e Q k=>by
 unfold eCB at e;cases he:α δ with
 |none=>rw [he]at e;cases e
 |some ds=>
  rw [he]at e;replace e:Zfp ds=some d:=e;unfold Zfp at e
  split at e
  · rename_i cs
    by_cases hz:cs.length<=sizeLine
    · rw [if_pos hz]at e
      cases e;refine h H0 av A σ H δ E _ he _ λvs H1 s1 r1 => ?_
      have il:Uh G.1 (AV av A) H1 [.str cs] vs:=by
       rcases hq with rfl|rfl<;>exact r1.il
      obtain⟨v,t,rfl,hx⟩:=il1 il;cases(show v=_ from hx);exact .inr ⟨cs,rfl,hz,λp hp=>k p _ _ H1 s1 hp (Zbw cs) rfl⟩
    · rw [if_neg hz]at e;cases e
  · exact h H0 av A σ H δ E _ he _ fun vs H1 s1 r1 => by
     have il:Uh G.1 (AV av A) H1 ds vs:=by
      rcases hq with rfl|rfl<;>exact r1.il
     refine .inl ?_;unfold ZhV at e
     split at e
     · rename_i xs
       cases e;obtain⟨v,t,rfl,a,ws,rfl,_,rd,l⟩:=il1 il;exact⟨a,ws,rfl,.inl rd,λp hp=>k p ws _ H1 s1 hp l rfl⟩
     · rename_i xs
       cases e;obtain⟨v,t,rfl,a,ws,rfl,_,rd,l⟩:=il1 il;exact⟨a,ws,rfl,.inr (SqT.of rd),λp hp=>k p ws _ H1 s1 hp l rfl⟩
     · cases e
end
end DL
namespace DL
open PySem PySem.Spec L2
def mat(rows:List (List D)):D := .lst (rows.map D.lst)
structure Mx(H:Hp)(a:Addr)(bs:List Addr)(rows:List (List D)):Prop where
 top:H a=some (.lst (bs.map V.ref))
 len:bs.length=rows.length
 nd:bs.Nodup
 na:a∉bs
 row:∀(k:Nat)(b:Addr)(r:List D),bs[k]? = some b->rows[k]? = some r->H b=some (.lst (r.map val))
 sc:∀r∈rows,r.all ZY=true
section
variable{H H':Hp}{a:Addr}{bs:List Addr}{rows:List (List D)}
theorem Mx.mem(M:Mx H a bs rows){b:Addr}(h:b∈bs):∃r∈rows,H b=some (.lst (r.map val)):=by
 obtain⟨k,hk,e⟩:=List.mem_iff_getElem.mp h;have hk2:k<rows.length:=by rw [<-M.len];exact hk
 exact⟨rows[k],List.getElem_mem hk2,M.row k b _ (by rw [List.getElem?_eq_getElem hk,e]) (List.getElem?_eq_getElem hk2)⟩
theorem Mx.there(M:Mx H a bs rows){x:Addr}(h:x∈a::bs):∃vs,H x=some (.lst vs):=by
 rcases List.mem_cons.mp h with rfl|h
 · exact⟨_,M.top⟩
 · obtain⟨r,_,e⟩:=M.mem h
   exact⟨_,e⟩
theorem Mx.mono(M:Mx H a bs rows)(k:Same H H'):Mx H' a bs rows:=⟨k _ _ M.top,M.len,M.nd,M.na,λn b r h1 h2=>k _ _ (M.row n b r h1 h2),M.sc⟩
theorem Mx.rep{cA:Kn}{av:Addr->Prop}(M:Mx H a bs rows)(hn:∀x∈a::bs,¬av x):Rep cA av H (mat rows) (.ref a):=by
 have go:∀(bs:List Addr)(rows:List (List D)),bs.length=rows.length->(∀x∈bs,¬av x)->(∀(k:Nat)(b:Addr)(r:List D),bs[k]? = some b->rows[k]? = some r->H b=some (.lst (r.map val)))->(∀r∈rows,r.all ZY=true)->RepL cA av H (rows.map D.lst) (bs.map V.ref):=by
  intro bs
  induction bs with
  |nil=>
   intro rows hl _ _ _;cases rows with
   |nil=>exact .nil
   |cons _ _=>simp at hl
  |cons b bs ih=>
   intro rows hl hn hr hs;cases rows with
   |nil=>simp at hl
   |cons r rows=>
    refine .cons ?_ (ih rows (by simpa using hl) (λx hx=>hn x (List.mem_cons_of_mem _ hx)) (λk b r h1 h2=>hr (k+1) b r (by simpa using h1) (by simpa using h2)) λr hr=>hs r (List.mem_cons_of_mem _ hr));unfold Rep;exact⟨b,r.map val,rfl,λz=>(hn b List.mem_cons_self z).elim,SqL.of (hr 0 b r rfl rfl),.of_vals (hs r List.mem_cons_self)⟩
 unfold mat Rep;exact⟨a,bs.map V.ref,rfl,λz=>(hn a List.mem_cons_self z).elim,SqL.of M.top,go bs rows M.len (λx hx=>hn x (List.mem_cons_of_mem _ hx)) M.row M.sc⟩
end
open Classical in
noncomputable def ovl(H0 H:Hp)(F:List Addr):Hp:=λx=>if x∈F then H x else H0 x
theorem Jl{H0 H:Hp}{F:List Addr}{x:Addr}(h:x∈F):ovl H0 H F x=H x:=if_pos h
theorem Qz{H0 H:Hp}{F:List Addr}{x:Addr}(h:x∉F):ovl H0 H F x=H0 x:=if_neg h
abbrev Cn.keep(G:Cn)(i:Nat)(v:V):Cn:=⟨G.1,λj=>if j=i then some (.inr v)else G.2 j⟩
abbrev avF(av:Addr->Prop)(F:List Addr):Addr->Prop:=λx=>av x\/x∈F
def PinOk(G:Cn)(i:Nat)(σ:L2.St):Prop:=∀z,G.2 i=some z->∃v,z = .inr v/\σ[i]? = some (some v)
theorem PinOk.none{G:Cn}{i:Nat}{σ:L2.St}(h:G.2 i=Option.none):PinOk G i σ:=λz e=>by rw [h]at e;cases e
theorem PinOk.set{G:Cn}{i k:Nat}{σ:L2.St}{x:Option V}(h:PinOk G i σ)(hk:k≠i):PinOk G i (σ.set k x):=λz e=>by
 obtain⟨v,h1,h2⟩:=h z e;exact⟨v,h1,by rw [List.getElem?_set_ne hk];exact h2⟩
structure MR(G:Cn)(ow:List Nat)(i:Nat)(H0:Hp)(av:Addr->Prop)(A:Nat->Option Addr)(σ:L2.St)(H:Hp)(δ:Env):Prop where
 ni:i∉ow
 nn:PinOk G i σ
 avd:∀x,av x->H0 x≠none
 ex:∃a bs rows,δ[i]? = some (some (mat rows))/\Mx H a bs rows/\(∀x∈a::bs,H0 x=none)/\ER (G.keep i (.ref a)) ow (ovl H0 H (a::bs)) (avF av (a::bs)) A σ H (δ.set i none)
section
variable{cA:Kn}{G:Cn}{ow owN owB owC ow1:List Nat}{i:Nat}{H0 H H':Hp}{av:Addr->Prop}{A:Nat->Option Addr}{σ:L2.St}{δ:Env}
theorem Zet{j:Nat}{v:V}(h:j≠i):(G.keep i v).2 j=G.2 j:=if_neg h
theorem ZfS{a:Addr}{bs:List Addr}{rows:List (List D)}(M:Mx H a bs rows)(k:Same H H'):ovl H0 H' (a::bs)=ovl H0 H (a::bs):=by
 funext x
 by_cases h:x∈a::bs
 · rw [Jl h,Jl h]
   obtain⟨vs,q⟩:=M.there h;rw [q,k _ _ q]
 · rw [Qz h,Qz h]
theorem MR.set{k:Nat}{d:D}(R:MR G ow i H0 av A σ H δ)(hs:ZY d=true)(hk:k≠i)(hw:∀j,j∈owN ↔ j∈ow/\j≠k)(hn:G.2 k=none):MR G owN i H0 av (λj=>if j=k then none else A j) (σ.set k (some (val d))) H (δ.set k (some d)):=by
 obtain⟨a,bs,rows,hd,M,h0,E⟩:=R.ex;refine⟨λz=>R.ni ((hw i).mp z).1,R.nn.set hk,R.avd,a,bs,rows,by rw [List.getElem?_set_ne hk];exact hd,M,h0,?_⟩;rw [List.set_comm _ _ hk];exact E.set (.of_val hs) hw (by rw [Zet hk];exact hn)
theorem MR.turn {a:Addr} {bs:List Addr} {rows rows':List (List D)} (ni:i∉ow) (nn:PinOk G i σ) (havd:∀x,av x->H0 x≠none) (hd:δ[i]? = some (some (mat rows))) (M:Mx H a bs rows) (h0:∀x∈a::bs,H0 x=none) (E:ER (G.keep i (.ref a)) ow (ovl H0 H (a::bs)) (avF av (a::bs)) A σ H (δ.set i none))
 (M':Mx H' a bs rows') (hk:∀x,x∉a::bs->H' x=H x):MR G ow i H0 av A σ H' (δ.set i (some (mat rows'))):=by
 have hil:i<δ.length:=(List.getElem?_eq_some_iff.mp hd).1
 have nF:∀j x,A j=some x->x∉a::bs:=λj x e z=>by
  have:=E.fr j x e;rw [Jl z]at this;obtain⟨vs,q⟩:=M.there z;rw [q]at this;cases this
 refine⟨ni,nn,havd,a,bs,rows',List.getElem?_set_self hil,M',h0,?_⟩;have e1:(δ.set i (some (mat rows'))).set i none=δ.set i none:=List.set_set ..;rw [e1];refine⟨λb o e => ?_,λx z => ?_,λj x e => ?_,E.inj,λj x e => ?_,E.dom,E.dom',E.len,E.pin,E.kept,λj d e => ?_⟩
 · by_cases h:b∈a::bs
   · rw [Jl h]at e;exact e
   · rw [Qz h]at e
     rw [hk b h];exact E.same b o (by rw [Qz h];exact e)
 · by_cases h:x∈a::bs
   · rw [Jl h]
     obtain⟨vs,q⟩:=M'.there h;rw [q];exact λz=>by cases z
   · rw [Qz h]
     exact havd x (z.resolve_right h)
 · have:=E.fr j x e
   rw [Qz (nF j x e)]at this ⊢;exact this
 · rw [hk x (nF j x e)]
   exact E.live j x e
 · have ex : ∀ b o, ¬ AV (avF av (a :: bs)) A b -> H b = some o -> H' b = some o := fun b o n e => by
    rw [hk b λz=>n (.inl (.inr z))];exact e
   obtain⟨v,h1,h2,h3⟩:=E.var j d e;refine⟨v,h1,λz=>(h2 z).ext ex,λb z => ?_⟩;obtain⟨r1,r2⟩:=h3 b z;refine⟨r1,?_⟩;cases d with
   |lst xs=>obtain⟨vs,q1,q2⟩:=r2;exact⟨vs,by rw [hk b (nF j b z)];exact q1,q2.ext ex⟩
   |obj c ks xs=>obtain⟨dx,vs,q1,q0,q2⟩:=r2;exact⟨dx,vs,by rw [hk b (nF j b z)];exact q1,q0,q2.ext ex⟩
   |dct ks xs=>obtain⟨vs,q1,q0,q2⟩:=r2;exact⟨vs,by rw [hk b (nF j b z)];exact q1,q0,q2.ext ex⟩
   |dtt ks xs=>obtain⟨vs,q1,q0,q2⟩:=r2;exact⟨vs,by rw [hk b (nF j b z)];exact q1,q0,q2.ext ex⟩
   |_=>exact r2
end
end DL
namespace DL
open PySem PySem.Spec L2
section
variable{cA:Kn}{G:Cn}{ow owN owB owC ow1:List Nat}{i:Nat}
end
end DL
namespace DL
open PySem PySem.Spec L2
section
variable{H:Hp}{a b:Addr}{bs:List Addr}{rows:List (List D)}{j:Nat}{r r':List D}
theorem Mx.at(M:Mx H a bs rows)(hr:rows[j]? = some r):∃b,bs[j]? = some b/\H b=some (.lst (r.map val)):=by
 have hjl:j<bs.length:=by rw [M.len];exact(List.getElem?_eq_some_iff.mp hr).1
 exact⟨bs[j],List.getElem?_eq_getElem hjl,M.row j _ r (List.getElem?_eq_getElem hjl) hr⟩
end
section
variable{cA:Kn}{G:Cn}{ow owN owB owC ow1:List Nat}{i:Nat}
end
end DL
namespace DL
open PySem PySem.Spec L2
def VFM(G:Cn)(ow:List Nat)(te:TE)(ε:Env->Option D):Prop:=
 ∀H0 av A σ H δ,ER G ow H0 av A σ H δ->∀d,ε δ=some d->∀Q:VK,(∀a bs rows H',Same H H'->(∀x∈a::bs,H x=none)->Mx H' a bs rows->d=mat rows->Q (.ref a) H')->te σ H Q
section
variable{cA:Kn}{G:Cn}{ow owN owB owC ow1:List Nat}{i:Nat}
theorem VFM.cl{te:TE}{ε:Env->Option D}(h:VFM G ow te ε):VE G ow te .cl ε:=λH0 av A σ H δ E d e Q k=>
 h H0 av A σ H δ E d e Q λa bs rows H' s hf M hd=>by
  subst hd;exact k _ H' s (M.rep λx hx z=>E.avl x z (hf x hx)).t
end
section
variable{P:Program}{w:World}{K:PySem.W.Frag}{mg:Str->Option Value}{base:Heap}{cA:Kn}
end
end DL
namespace DL
open PySem PySem.Spec L2
section
variable{cA:Kn}{G:Cn}{ow:List Nat}
structure RowsAt(H0 H:Hp)(bs:List Addr)(rows:List (List D)):Prop where
 len:bs.length=rows.length
 nd:bs.Nodup
 row:∀(k:Nat)(b:Addr)(r:List D),bs[k]? = some b->rows[k]? = some r->H b=some (.lst (r.map val))
 fr:∀b∈bs,H0 b=none
 sc:∀r∈rows,r.all ZY=true
theorem RowsAt.same{H0 H H':Hp}{bs:List Addr}{rows:List (List D)}(R:RowsAt H0 H bs rows)(s:Same H H'):RowsAt H0 H' bs rows:=⟨R.len,R.nd,λk b r h1 h2=>s _ _ (R.row k b r h1 h2),R.fr,R.sc⟩
end
end DL
namespace DL
open PySem PySem.Spec L2
section
variable{cA:Kn}{G:Cn}{ow owN owB owC ow1:List Nat}{i:Nat}
open Classical in
end
section
variable{P:Program}{w:World}{K:PySem.W.Frag}{mg:Str->Option Value}{base:Heap}{cA:Kn}
end
end DL
namespace L2
open PySem PySem.Spec PySem.W PyProof.Rows
end L2
namespace DL
open PySem PySem.Spec L2 PyProof.Rows
section
variable{X:Cx}{K:PySem.W.Frag}{cA:Kn}
end
end DL
namespace L2
open PySem PySem.Spec PyProof.Rows
section
variable{X:Cx}{scope:Scope}{tn cn:List Str}{js:List Nat}{tg iter elt:Expr}{ifs:List Expr}{pos spos pos':Pos}{wi:TI}{g:TG}{tt:TT}{te:TE}
end
end L2
namespace L2
open PySem PySem.Spec PyProof.Rows Builtin Builtin.Str
theorem ZdS {P:Program} {w:World} {A:Around} {E:Value->Shared->Prop} {s:Shared} {x y:Str} {tx' ty:Tok} {R:Value->Shared->Prop} (hy:(y.length == 0)=false) (hx:x.length+2<=sizeLine)
 (q:∀l k,l.map (·.1)=Txt.split x y->R (.ref s.heap.objs.size) { s with toks:=k,heap:=s.heap.push { cls := .type "list",data := .seq (strValues l).toArray } }) :
 wpAny (model P w) A (call (.builtin "str.split") [.str x tx',.str y ty]) R E s:=by
 have hp:(partsBetween x (occurrences x y 0 x.length (x.length+1)) y.length).length<=sizeLine:=by
  have b:=StrLaws.occ_length_le x y 0 x.length (x.length+1);rw [length_partsBetween];omega
 by_cases c1:(decide (x.length<y.length)||decide (strKind x<strKind y))=true
 · refine call_meets F.slot_str_split (typeIs_str _ _ _) F.entry_str_split (F.args_str_split_2 _ _) (meets_str_split_cannot_occur x y tx' ty c1) ?_
   exact q [(x,tx')] s.toks (if_pos c1).symm
 · have c1':=Bool.eq_false_iff.mpr c1
   by_cases c2:(occurrences x y 0 x.length (x.length+1)).isEmpty=true
   · refine call_meets F.slot_str_split (typeIs_str _ _ _) F.entry_str_split (F.args_str_split_2 _ _) (meets_str_split_not_found x y tx' ty c1' hy c2) ?_
     exact q [(x,tx')] s.toks ((if_neg c1).trans (if_pos c2)).symm
   · have c2':=Bool.eq_false_iff.mpr c2
     refine call_meets F.slot_str_split (typeIs_str _ _ _) F.entry_str_split (F.args_str_split_2 _ _) (meets_str_split_sep x y tx' ty c1' hy c2' (by omega) hp) ?_;show wants R E _ { s with toks:=_,heap:=s.heap.push { cls := .type "list",data := .seq (strsFrom s.toks (partsBetween x (occurrences x y 0 x.length (x.length+1)) y.length)).toArray } };rw [strsFrom_eq];refine q (numbered s.toks _) _ ((numbered_texts _ _).trans ?_)
     exact((if_neg c1).trans (if_neg c2)).symm
theorem Zcb:∀{l:List (Str×Tok)}{ps:List (List Nat)},l.map (·.1)=ps.map tx->Vals (ps.map S) (strValues l)
 | [],[],_ => .nil
 | [],_::_,h=>by cases h
 |_::_,[],h=>by cases h
 |(a,t)::l,p::ps,h=>by
  rw [List.map_cons,List.map_cons,List.cons.injEq]at h;obtain⟨h1,h2⟩:=h;have h1:a=tx p:=h1;subst h1;exact .cons ⟨t,rfl⟩ (Zcb h2)
section
variable{X:Cx}
theorem Zdm:MtR X "str.split" (λx xs H Q=>∃(a:List Nat) (c:Nat),x=S a/\xs=[S [c]]/\a.length+2<=sizeLine/\(ZS c a).length<=sizeLine/\∀p,H p=none->Q (.ref p) (upd H p (.lst ((ZS c a).map S)))):=by
 intro pins s σ H x xs v us Q I rx rs h;obtain⟨a,c,rfl,rfl,hz,hz2,q⟩:=h;obtain⟨t,rfl⟩:=rx;obtain⟨u,rfl,t',rfl⟩:=Xf rs;refine ZdS (y:=tx [c]) (by rfl) (show(tx a).length+2<=sizeLine by rw [YL];exact hz) λl k e => ?_
 rw [ZfF]at e;have hv:=Zcb e;have hfr:=I.fresh;refine⟨.ref s.heap.objs.size,_,I.laid (λb u e=>Heap.get?_push_of_some _ e) (Nat.le_refl _) ?_,rfl,q _ hfr⟩;exact⟨by simpa using hz2,strValues l,0,hv,Heap.get?_push_size _ rfl⟩
def YF(c:Nat)(a:List Nat):List Nat×List Nat×List Nat:=if 0<=Uf c a then(a.take (Uf c a).toNat,[c],a.drop ((Uf c a).toNat+1))else(a,[],[])
theorem Zhk(a:List Nat)(c:Nat):Txt.partition (tx a) (tx [c])=(tx (YF c a).1,tx (YF c a).2.1,tx (YF c a).2.2):=by
 have e':=Zg7 a c;unfold Txt.find at e';unfold Txt.partition YF;cases ho:occurrences (tx a) (tx [c]) 0 (tx a).length 1 with
 |nil=>
  rw [ho]at e';rw [if_neg (by rw [<-e'];show ¬(0:Int) <= -1;omega)];rfl
 |cons j r=>
  rw [ho]at e';have e2:Uf c a=(j:Int):=e'.symm;rw [e2,if_pos (by omega)];dsimp only;rw [ZaA,ZaA,YL,YL,List.drop_zero,Nat.sub_zero,Int.toNat_natCast];rw [List.take_of_length_le (l:=a.drop (j+[c].length)) (by rw [List.length_drop];exact Nat.le_refl _)];rfl
theorem Zcs:MtR X "str.partition" (λx xs H Q=>∃(a:List Nat) (c:Nat),x=S a/\xs=[S [c]]/\a.length<=sizeLine/\∀p,H p=none->Q (.ref p) (upd H p (.tup [S (YF c a).1,S (YF c a).2.1,S (YF c a).2.2]))):=by
 intro pins s σ H x xs v us Q I rx rs h;obtain⟨a,c,rfl,rfl,hz,q⟩:=h;obtain⟨t,rfl⟩:=rx;obtain⟨u,rfl,t',rfl⟩:=Xf rs;have hp:=Zhk a c;have hfr:=I.fresh
 have fin:∀ta tb tc k,EP X pins σ Q (.ref s.heap.objs.size) { s with toks:=k,heap:=s.heap.push { cls := .type "tuple",data := .seq [.str (tx (YF c a).1) ta,.str (tx (YF c a).2.1) tb,.str (tx (YF c a).2.2) tc].toArray } }:=λta tb tc k=>by
  refine⟨.ref s.heap.objs.size,_,I.laid (λb u e=>Heap.get?_push_of_some _ e) (Nat.le_refl _) ?_,rfl,q _ hfr⟩;refine⟨?_,[.str (tx (YF c a).1) ta,.str (tx (YF c a).2.1) tb,.str (tx (YF c a).2.2) tc],.cons ⟨ta,rfl⟩ (.cons ⟨tb,rfl⟩ (.cons ⟨tc,rfl⟩ .nil)),⟨_,Heap.get?_push_size _ rfl,rfl,⟨_,rfl⟩,rfl⟩⟩;rw [sizeLine_eq];simp
 refine call_meets F.slot_str_partition (typeIs_str _ _ _) F.entry_str_partition (F.args_str_partition_2 _ _) (meets_str_partition (tx a) (tx [c]) t t' (by rfl) (by rw [YL];exact hz)) ?_;unfold Txt.partition at hp;revert hp;cases occurrences (tx a) (tx [c]) 0 (tx a).length 1 with
 |nil=>
  intro hp;simp only [Prod.mk.injEq]at hp;obtain⟨h1,h2,h3⟩:=hp;rw [<-h1,<-h2,<-h3]at fin;exact fin _ _ _ _
 |cons i r=>
  intro hp;simp only [Prod.mk.injEq]at hp;obtain⟨h1,h2,h3⟩:=hp;rw [<-h1,<-h2,<-h3]at fin;exact fin _ _ _ _
end
theorem Zas(c:Nat):∀a:List Nat,(ZS c a).length<=a.length+1
 | []=>by simp [ZS]
 |x::a=>by
  have ih:=Zas c a;unfold ZS
  split
  · simp;omega
  · split
    · simp
    · rename_i p ps e
      rw [e]at ih;simp at ih ⊢;omega
end L2
namespace DL
open PySem PySem.Spec L2
variable{cA:Kn}
def splitD(a:List Nat):List D->Option D
 | [.str [c]]=>if a.length+2<=sizeLine then some (.lst ((ZS c a).map D.str))else none
 |_=>none
def partitionD(a:List Nat):List D->Option D
 | [.str [c]]=>if a.length<=sizeLine then some (.tup [.str (YF c a).1,.str (YF c a).2.1,.str (YF c a).2.2])else none
 |_=>none
theorem Zcc{av:Addr->Prop}{H:Hp}(l:List (List Nat)):RepL cA av H (l.map D.str) (l.map S):=by
 have:=RepL.of_vals (cA:=cA) (av:=av) (H:=H) (xs:=l.map D.str) (by rw [List.all_map];exact List.all_eq_true.mpr λ_ _=>rfl);rw [List.map_map]at this;exact this
theorem Zdn:Qs cA (λx xs H Q=>∃(a:List Nat) (c:Nat),x=S a/\xs=[S [c]]/\a.length+2<=sizeLine/\(ZS c a).length<=sizeLine/\∀p,H p=none->Q (.ref p) (upd H p (.lst ((ZS c a).map S)))) splitD:=λi H a ds vs d hi h e Q k=>by
 unfold splitD at e
 split at e
 · rename_i c
   by_cases hz:a.length+2<=sizeLine
   · rw [if_pos hz]at e
     cases e;have hl:=Zas c a;refine⟨a,c,rfl,Zc0 h,hz,by omega,λp hp=>k _ _ (Xa hp) ⟨p,_,rfl,λz=>(hi p z hp).elim,SqL.of Yo,Zcc _⟩⟩
   · rw [if_neg hz]at e;cases e
 · cases e
theorem Zct:Qs cA (λx xs H Q=>∃(a:List Nat) (c:Nat),x=S a/\xs=[S [c]]/\a.length<=sizeLine/\∀p,H p=none->Q (.ref p) (upd H p (.tup [S (YF c a).1,S (YF c a).2.1,S (YF c a).2.2]))) partitionD:=λi H a ds vs d hi h e Q k=>by
 unfold partitionD at e
 split at e
 · rename_i c
   by_cases hz:a.length<=sizeLine
   · rw [if_pos hz]at e
     cases e;refine⟨a,c,rfl,Zc0 h,hz,λp hp=>k _ _ (Xa hp) ⟨p,_,rfl,λz=>hi p z hp,Yo,Zcc [(YF c a).1,(YF c a).2.1,(YF c a).2.2]⟩⟩
   · rw [if_neg hz]at e;cases e
 · cases e
end DL
namespace PySem
open Builtin SmallTypes
open AutoSeq1 (wpAny_loadPart')
theorem ZaS(a:Addr)(its:Array Value)(k:Nat)(dc:Option Addr)(sl:Array (Option Value))(u:Tok) :
 Meets (Builtin.«enumerate.__new__» ⟨[.type "enumerate",.ref a],[("start",.int 1 u)]⟩) (λ_ R s=>s.heap.get? a=some { cls := .type "list",dict:=dc,data := .seq its k,slots:=sl } /\
  R (.ok (.ret (.ref (s.heap.push { cls := .type "list_iterator",data := .fields #[.ref a,.int 0 0] }).objs.size)))
   { s with heap:=(s.heap.push { cls := .type "list_iterator",data := .fields #[.ref a,.int 0 0] }).push { cls := .type "enumerate",data := .fields #[.none,.bool false,.ref s.heap.objs.size,rawInt 1,.none,.none] } }):=
 .of_wp λP w A R s h=>by
  obtain⟨hp,gs,dr,tk,os⟩:=s;obtain⟨hl,h⟩:=h;have sb:=sub_enumerate;have hL:Heap.IsList (Shared.heap ⟨hp,gs,dr,tk,os⟩) a its:=⟨_,hl,rfl,k,rfl⟩
  wp_walk using wpAny_loadPart' hl
  refine wpAny_stack_any λfs => ?_
  refine wpAny_pure ?_
  split
  · rename_i q _ _ _ _ _
    cases(q == Value.type "enumerate")<;>(wp_walk using wpAny_loadPart' hl,wpAny_pyIter_list hL)
    · exact⟨_,rfl,h⟩
    · exact⟨_,rfl,h⟩
  · wp_walk using wpAny_loadPart' hl,wpAny_pyIter_list hL
    exact⟨_,rfl,h⟩
end PySem
namespace PySem
open Sem (wp)
theorem tyK(a:Value)(u:Tok):checkTypeCall "enumerate" ⟨[a],[("start",.int 1 u)]⟩=pure ():=by kernel_rfl
theorem nwK(a:Value)(u:Tok):checkBuiltinCall "enumerate.__new__" ⟨[.type "enumerate",a],[("start",.int 1 u)]⟩=pure ():=by kernel_rfl
theorem ZkE(x a:Value)(u:Tok):argsOk "object.__init__" ⟨[x,a],[("start",.int 1 u)]⟩:=by
 first
  |kernel_rfl
  |exact⟨by kernel_rfl⟩
  |(unfold argsOk;kernel_rfl)
theorem ZcO{x a:Value}{u:Tok}:Meets (Builtin.«object.__init__» ⟨[x,a],[("start",.int 1 u)]⟩) (λ_ R s=>s.TypeIs x "enumerate" /\ R (.ok (.ret .none)) s):=by
 have hl:=F.called_enumerate.init.lookup;have hm:=F.called_enumerate.made;refine Meets.of_wp λP w A R s hs => ?_
 obtain⟨hT,hq⟩:=hs
 repeat (any_goals (first|wp_step|assumption))
 exact⟨_,rfl,hq⟩
end PySem
namespace PySem
open Sem (wp)
section
variable{P:Program}{w:World}{A:Around}{E:Value->Shared->Prop}{s:Shared}
theorem Zbf {a:Value} {u:Tok} {S:Spec} {Q:Value->Shared->Prop} (g:Meets (Builtin.«enumerate.__new__» ⟨[.type "enumerate",a],[("start",.int 1 u)]⟩) S)
 (h:S A.in1 (wants (λx s₁=>s₁.TypeIs x "enumerate" /\ Q x s₁) E) s):wpAny (model P w) A (call (.type "enumerate") [a] [("start",.int 1 u)]) Q E s:=by
 have ft:=F.called_enumerate;obtain⟨c,tl,b1⟩:=ft.mro;have b2:=ft.made;have b3:=ft.sub;have b4:=ft.notType;have b5:=ft.canCreate;have b6:=tyK a u;refine wpAny_call (codeAny_of_tree ?_);show wpAny _ _ (callAny (.type "enumerate") _) _ _ _;refine wpAny_pure ⟨Code.quiet_builtin _ (by decide +kernel),?_⟩;refine codeAny_builtin F.entry_type_call ?_;rw [Around.under_plain (weight_type_call_type _ [a] _) (units_type_call_type _ [a] _)]
 repeat (any_goals (first|wp_step|assumption))
 refine codeAny_mono (codeAny_call_builtin ft.plain F.entry_enumerate_new (wpAny_of_eq (nwK a u) (g P w A.in1 _ s h))) λr s₁ hr => ?_
 cases r with
 |error e=>exact hr
 |ok fl=>
  cases fl with
  |ret obj=>
   obtain⟨hT,hq⟩:=hr;have b7:=ft.init.lookup;have b8:=ft.init.bind obj
   repeat (any_goals (first|wp_step|assumption))
   have ini:=ZcO (x:=obj) (a:=a) (u:=u) P w A.in1 (wants (λr s₂=>r=Value.none/\Q obj s₂) E) s₁ ⟨hT,rfl,hq⟩;refine codeAny_mono (codeAny_call_builtin ft.init.plain F.entry_object_init (ft.init.check _ _ _ _ _ _ _ _ hT (ZkE obj a u) ini)) λr2 s2 h2 => ?_
   cases r2 with
   |error e=>exact h2
   |ok f2=>
    cases f2 with
    |ret r=>
     obtain⟨rfl,hq2⟩:=h2
     repeat (any_goals (first|wp_step|assumption))
    |_=>exact h2.elim
  |_=>exact hr.elim
theorem ZdT {l:Addr} {its:Array Value} {u:Tok} {Q:Value->Shared->Prop} (hL:s.heap.IsList l its)
 (h:∀h',IsEnum h' (s.heap.objs.size+1) s.heap.objs.size 1 .none->h'.IsListIter s.heap.objs.size l 0->(∀b o,s.heap.get? b=some o->h'.get? b=some o)->Q (.ref (s.heap.objs.size+1)) { s with heap:=h' }) :
 wpAny (model P w) A (call (.type "enumerate") [.ref l] [("start",.int 1 u)]) Q E s:=by
 obtain⟨⟨c,dc,dt,sl⟩,hl,hc,n,hd⟩:=hL;cases(show c = .type "list" from hc);cases(show dt = .seq its n from hd);refine Zbf (ZaS l its n dc sl u) ⟨hl,?_⟩;have hz:(s.heap.push { cls := .type "list_iterator",data := .fields #[.ref l,.int 0 0] }).objs.size=s.heap.objs.size+1:=by rw [Heap.size_push]
 have e0:=Heap.get?_push_size (s.heap.push { cls := .type "list_iterator",data := .fields #[.ref l,.int 0 0] }) (o:={ cls := .type "enumerate",data := .fields #[.none,.bool false,.ref s.heap.objs.size,rawInt 1,.none,.none] }) rfl;rw [hz]at e0;show _/\_;rw [hz];exact⟨⟨_,e0,rfl⟩,h _ e0 ⟨_,Heap.get?_push_of_some _ (Heap.get?_push_size _ rfl),rfl,rfl⟩ λb o x=>Heap.get?_push_of_some _ (Heap.get?_push_of_some _ x)⟩
end
end PySem
namespace L2
open PySem PySem.Spec PyProof.Rows
def Zj1(K:PySem.W.Frag)(n0:Nat)(l:Addr):It:=
 ⟨λi H=>∃xs x,SqL K H l xs/\xs[i]? = some x,λi H v H'=>∃x p,(∀xs,SqL K H l xs->xs[i]? = some x)/\H p=none/\v = .ref p/\H'=upd H p (.tup [.int ((n0+i:Nat):Int),x]),λi H=>∃xs,SqL K H l xs/\xs.length<=i⟩
theorem Ze7{prog:Program}{w:World}{A:Around}(hh:A.handled=none)(it l:Addr)(hne:l≠it)(its:Array Value)(n0:Nat) :
 Draws prog w A it [it,l] (n0+its.size) (λi v=>∃j,i=n0+j/\its[j]? = some v) (λi h=>∃j,i=n0+j/\h.IsListIter it l j/\h.IsList l its) where
 live:=λi h ⟨j,_,st,_⟩=>let⟨o,ho,_⟩:=st;⟨o,ho⟩
 frame:=λi h h' ⟨j,e,s1,s2⟩ hk=>⟨j,e,s1.at λo q=>hk it (by simp) o q,s2.at λo q=>hk l (by simp) o q⟩
 item:=λi s Q E hi st hQ=>by
  obtain⟨j,rfl,s1,s2⟩:=st;have hj:j<its.size:=by omega
  refine wpAny_nextOf_list_item s1 s2 (x:=its[j]) (by simp [hj]) λh' st' sb => ?_
  exact hQ _ h' s.toks ⟨j,rfl,by simp [hj]⟩ ⟨j+1,by omega,st',s2.extBut sb.extBut hne⟩ sb
 done:=λs Q E st hE=>by
  obtain⟨j,e,s1,s2⟩:=st
  exact wpAny_nextOf_list_end hh s1 s2 (by have : j = its.size := by omega
                                           subst this;simp) hE
theorem ZdU{prog:Program}{w:World}{A:Around}(hh:A.handled=none)(it l:Addr)(its:Array Value)(n j:Nat)(hj:its.size<=j) :
 Draws prog w A it [it,l] n (λ_ _=>False) (λi h=>i=n/\h.IsListIter it l j/\h.IsList l its) where
 live:=λi h ⟨_,st,_⟩=>let⟨o,ho,_⟩:=st;⟨o,ho⟩
 frame:=λi h h' ⟨e,s1,s2⟩ hk=>⟨e,s1.at λo q=>hk it (by simp) o q,s2.at λo q=>hk l (by simp) o q⟩
 item:=λi s Q E hi st hQ=>absurd st.1 (by omega)
 done:=λs Q E st hE=>wpAny_nextOf_list_end hh st.2.1 st.2.2 (by simp [hj]) hE
theorem ZdV{P:Program}{w:World}{K:PySem.W.Frag}{elts:List Expr}{x1:Nat}{tpos:Pos}(e it l:Addr)(hne:e≠it)(n0:Nat) :
 Turn P w K (.Tuple elts x1 tpos) (Zj1 K n0 l) [e,it] e (λi h=>(∃old,IsEnum h e it ((n0+i:Nat):Int) old)/\h.IsListIter it l i) where
 mem:=by simp
 obj:=λi h st b hb=>by
  obtain⟨⟨old,he⟩,o,ho,hc,hd⟩:=st;simp at hb;rcases hb with rfl|rfl
  · exact ⟨_, he, fun v z => by
     have z':Data.fields _=Data.cell v:=z;cases z'⟩
  · exact⟨o,ho,λv z=>by rw [hd]at z;cases z⟩
 keep:=λi h h' st k=>by
  obtain⟨⟨old,he⟩,s1⟩:=st;exact⟨⟨old,k e (by simp) _ he⟩,s1.at λo q=>k it (by simp) o q⟩
 item:=by
  intro X hP hw hK hc i pins s σ H E I hf st hg;subst hP hw hK;obtain⟨⟨old,he⟩,st⟩:=st;obtain⟨xs,x,hq,hx⟩:=hg;obtain⟨its,rv,p,hz⟩:=I.list hq;obtain⟨u,hu,ru⟩:=rv.get hx;have hi:i<its.length:=(List.getElem?_eq_some_iff.mp hu).1;obtain⟨e0,e1,e2,e3,e4,e5⟩:=hf e (by simp);obtain⟨f0,f1,f2,f3,f4,f5⟩:=hf it (by simp)
  have hLe:l≠e:=by
   rintro rfl
   obtain⟨o,ho,hcl,_⟩:=p.isList;have he':s.heap.get? l=some _:=he;rw [he']at ho;cases ho;exact absurd (show Value.type "enumerate" = Value.type "list" from hcl) (by decide)
  have hLi:l≠it:=by
   rintro rfl
   obtain⟨o,ho,hcl,_⟩:=p.isList;obtain⟨o',ho',hcl',_⟩:=id st;rw [ho]at ho';cases ho';rw [hcl]at hcl';exact absurd hcl' (by decide)
  have D:=Ze7 (prog:=X.prog) (w:=X.w) (A:=X.A.in1) (I.ok.hd hc) it l hLi its.toArray n0;refine wpAny_pyNext_enum_itemD D he ⟨i,rfl,st,p.isList⟩ (by simp;omega) hne (by simp [hne,Ne.symm hLe]) λy h' tk hP ho st' hT hsz hk => ?_
  obtain⟨j,ej,hy⟩:=hP;have ej':j=i:=by omega
  subst ej'
  have hyu:y=u:=by
   have:its[j]? = some y:=by simpa using hy
   rw [hu]at this;exact(Option.some.inj this).symm
  subst hyu;refine⟨_,rfl,wpAny_letOwnedTupleGo_enum ho λh2 he2 hs2 => ?_⟩;have hs2:Heap.SameBut e h' h2:=hs2;have hTl:e<s.heap.objs.size:=Heap.lt_size he;obtain⟨j',ej2,st'',_⟩:=st';have ej3:j'=j+1:=by omega
  subst ej3;have hT2:h2.get? s.heap.objs.size=some { cls := .type "tuple",data := .seq #[.int ((n0+j:Nat):Int) tk,y] }:=(hs2.2 _ (Nat.ne_of_gt hTl)).trans hT;have k2:∀b o,b≠e->b≠it->s.heap.get? b=some o->h2.get? b=some o:=λb o hb hb' q=>(hs2.2 b hb).trans (hk b o hb hb' q)
  have hTn:H s.heap.objs.size=none:=I.hok.fresh (Nat.le_refl _);have neT:∀b o,s.heap.get? b=some o->b≠s.heap.objs.size:=λb o q=>Nat.ne_of_lt (Heap.lt_size q)
  have I2:Inv X pins σ (upd H s.heap.objs.size (.tup [.int ((n0+j:Nat):Int),x])) { s with heap:=h2,toks:=tk+1 }:=by
   refine I.step (g':=s.gens) (d':=s.drawn) (ch:=[e,it]) (λb hb => ?_) (λb o _ _ hcb q _ => ?_) (λb o _ _ hcb q _ => ?_) (λb o hcb q n => ?_) (λb o hcb q => ?_) (λb xs q => ?_) (λb o v q => ?_) (λb ps q => ?_) (λm hm => ?_) (λb o q => ?_) I.bare
   · simp at hb
     rcases hb with rfl|rfl
     · exact⟨e3,e1,e4,e5⟩
     · exact⟨f3,f1,f4,f5⟩
   · simp at hcb
     exact k2 b o hcb.1 hcb.2 q
   · simp at hcb
     exact⟨o.slots,k2 b o hcb.1 hcb.2 q⟩
   · rw [Zx (neT b o q)]
     exact n
   · simp at hcb
     exact⟨o,k2 b o hcb.1 hcb.2 q⟩
   · rw [Zx (Yy q hTn)]
     exact q
   · rw [Zx (Yy q hTn)]
     exact q
   · exact⟨#[],by rw [Zx (Yy q hTn),q];simp⟩
   · obtain⟨o,es,ep,q,r⟩:=hm
     exact⟨o,es,ep,k2 _ o (Ne.symm e1) (Ne.symm f1) q,r⟩
   · by_cases hb:b=s.heap.objs.size
     · subst hb
       rw [Yo]at q;cases q;refine⟨by show 2<=sizeLine;decide,[.int ((n0+j:Nat):Int) tk,y],.cons ⟨_,rfl⟩ (.cons ru .nil),?_⟩;exact⟨_,hT2,rfl,⟨_,rfl⟩,rfl⟩
     · rw [Zx hb]at q
       have nn:∀(b:Addr)(o:HO),H b=some o->b≠e/\b≠it:=λb o q=>⟨λz=>(by rw [z,e0]at q;cases q),λz=>(by rw [z,f0]at q;cases q)⟩
       refine(I.hok b o q).stay (λd v hd q' => ?_) (λd q'=>by rw [Zx (Yy q' hTn)];exact q') λd xs q'=>by rw [Zx (Yy q' hTn)];exact q'
       rcases hd with rfl|hd
       · exact k2 d v (nn d o q).1 (nn d o q).2 q'
       · exact k2 d v (nn d _ hd).1 (nn d _ hd).2 q'
  have he3:IsEnum h2 e it ((n0+(j+1):Nat):Int) y:=by
   have:((n0+(j+1):Nat):Int)=((n0+j:Nat):Int)+1:=by push_cast;omega
   rw [this];exact he2
  refine⟨.ref s.heap.objs.size,_,I2,rfl,⟨x,s.heap.objs.size,λys hy=>by rw [I.list_inj hy hq];exact hx,hTn,rfl,rfl⟩,⟨⟨_,he3⟩,?_⟩,λb hb => ?_⟩
  · obtain⟨o,ho',r⟩:=st''
    exact⟨o,(hs2.2 it (Ne.symm hne)).trans ho',r⟩
  · simp at hb
    rcases hb with rfl|rfl
    · rw [Zx (Nat.ne_of_lt hTl)];exact e0
    · obtain⟨o,ho',_⟩:=st
      rw [Zx (neT _ o ho')];exact f0
 done:=by
  intro X hP hw hK hc i pins s σ H E I hf st hg;subst hP hw hK;obtain⟨⟨old,he⟩,st⟩:=st;obtain⟨xs,hq,hx⟩:=hg;obtain⟨its,rv,p,hz⟩:=I.list hq;have hl:=rv.length;obtain⟨f0,f1,f2,f3,f4,f5⟩:=hf it (by simp);have D:=ZdU (prog:=X.prog) (w:=X.w) (A:=X.A.in1) (I.ok.hd hc) it l its.toArray (n0+i) i (by simp;omega);exact wpAny_pyNext_enum_endD D he ⟨rfl,st,p.isList⟩ λh' eb=>⟨rfl,I.turned (t':=s.toks) (λb o hb q=>eb b o hb q) f0 f1 f3 f4 f5⟩
 self:=λ_ _ _ _ _ st h=>by
  obtain⟨⟨old,he⟩,_⟩:=st;exact wpAny_pyIter_enum he h
end L2
namespace L2
open PySem PySem.Spec PyProof.Rows
section
variable{X:Cx}{elts:List Expr}{x1:Nat}{tpos:Pos}
end
end L2
namespace L2
open PySem PySem.Spec PyProof.Rows
theorem Zcu {M:Model} {A:Around} {E:Value->Shared->Prop} {s:Shared} {pos:Pos} {T:String} {as:List (Bool×Sem Value)} {kws:List (Option Str×Sem Value)} {Q:Value->Shared->Prop}
 (h1:as.any (·.1)=false) (h2:kws.any (·.1.isNone)=false)
 (h:wpAny M A (evalArgs (.type T) true as kws) (λa s₁=>wpAny M A (call (.type T) a.pos a.kw) Q E s₁) E s):wpAny M A (callWith pos (.type T) [] as kws) Q E s:=by
 unfold callWith;refine wpAny_bind (wpAny_holding (thn h λa s₁ g => ?_));refine wpAny_bind (wpAny_standAt ?_);simp only [h1,h2,Bool.or_false,List.nil_append];refine wpAny_bind (wpAny_pure ?_);refine wpAny_bind (thn g λr s₂ hr => ?_);exact wpAny_bind (wpAny_holding (wpAny_point (wpAny_pure hr)))
section
variable{X:Cx}{elts:List Expr}{x1:Nat}{tpos:Pos}
end
end L2
namespace DL
open PySem PySem.Spec L2
section
variable{cA:Kn}{G:Cn}{ow:List Nat}
theorem ZcP{iv:Addr->Prop}{H0:Hp}{a:Addr}{vs:List V}{xs:List D}{n0:Nat}(rd:SqL cA.K H0 a vs)(l:RepL cA iv H0 xs vs):US cA iv (Zj1 cA.K n0 a) (XX n0 xs) H0:=λH s=>by
 have rd':SqL cA.K H a vs:=s.seq rd;refine⟨λi hi => ?_,λi x v H' hx y => ?_,λi hi=>⟨vs,rd',by rw [Jj]at hi;rw [<-l.length];exact hi⟩⟩
 · rw [Jj]at hi
   obtain⟨v,hv,_⟩:=l.get (List.getElem?_eq_getElem hi);exact⟨vs,v,rd',hv⟩
 · obtain⟨z,p,hy,hp,rfl,rfl⟩:=y
   rw [Za7]at hx;cases hxi:xs[i]? with
   |none=>rw [hxi]at hx;cases hx
   |some d=>
    rw [hxi]at hx;cases hx;obtain⟨v',hv,r⟩:=l.get hxi;rw [hy vs rd']at hv;cases hv;refine⟨Xa hp,λav' h1 h2 => ?_⟩;unfold Rep;exact⟨p,_,rfl,λz=>h1 p z hp,Yo,.cons rfl (.cons (((r.av h2).same s).same (Xa hp)) .nil)⟩
end
end DL
namespace DL
open PySem PySem.Spec L2
section
variable{cA:Kn}{G:Cn}{ow:List Nat}
end
end DL
namespace DL
open PySem PySem.Spec L2
section
variable{cA:Kn}{G:Cn}{ow owN owB owC ow1:List Nat}{i:Nat}
theorem MR.own{H0 H:Hp}{av:Addr->Prop}{A:Nat->Option Addr}{σ:L2.St}{δ:Env}{k:Nat}{xs:List D}{p:Addr}(R:MR G ow i H0 av A σ H δ)(hs:xs.all ZY=true)(hp:H p=none)(hk:k≠i)(hw:∀j,j∈ow1 ↔ j∈ow\/j=k)(hn:G.2 k=none):MR G ow1 i H0 av (λj=>if j=k then some p else A j) (σ.set k (some (.ref p))) (upd H p (.lst (xs.map val))) (δ.set k (some (.lst xs))):=by
 obtain⟨a,bs,rows,hd,M,h0,E⟩:=R.ex;refine⟨λz=>((hw i).mp z).elim R.ni λz=>hk z.symm,R.nn.set hk,R.avd,a,bs,rows,by rw [List.getElem?_set_ne hk];exact hd,M.mono (Xa hp),h0,?_⟩;rw [List.set_comm _ _ hk,ZfS M (Xa hp)];exact E.own hp (.of_vals hs) hw (by rw [Zet hk];exact hn)
end
end DL
namespace L2
open PySem PySem.Spec PyProof.Rows
section
variable{κ:Type} [DecidableEq κ]
def VB(kvs:List (κ×V))(k:κ):Option V:=(kvs.find? λkv=>decide (kv.1=k)).map (·.2)
def Zi3(kvs:List (κ×V))(k:κ)(v:V):List (κ×V):=
 if(kvs.any λkv=>decide (kv.1=k))=true then kvs.map (λkv=>if kv.1=k then(kv.1,v)else kv)else kvs++[(k,v)]
theorem Zdo{p:κ×V}{r:List (κ×V)}{k:κ}(e:p.1=k):VB (p::r) k=some p.2:=by simp [VB,List.find?_cons,e]
theorem Zdp{p:κ×V}{r:List (κ×V)}{k:κ}(e:¬p.1=k):VB (p::r) k=VB r k:=by simp [VB,List.find?_cons,e]
theorem KV.val{kvs:List (κ×V)}{vs:List (κ×Value)}(r:KV kvs vs)(k:κ):RelO (VB kvs k) (valueAt vs k):=by
 unfold KV at r
 induction r with
 |nil=>exact True.intro
 | @cons p q ps qs h t ih=>
  obtain⟨h1,h2⟩:=h
  by_cases e:p.1=k
  · have e':q.1=k:=h1.symm.trans e
    have b:valueAt (q::qs) k=some q.2:=by simp [valueAt,List.find?_cons,e']
    rw [Zdo e,b];exact h2
  · have e':¬q.1=k:=λz=>e (h1.trans z)
    have b:valueAt (q::qs) k=valueAt qs k:=by simp [valueAt,List.find?_cons,e']
    rw [Zdp e,b];exact ih
theorem KV.any{kvs:List (κ×V)}{vs:List (κ×Value)}(r:KV kvs vs)(k:κ):(kvs.any λkv=>decide (kv.1=k))=vs.any λkv=>decide (kv.1=k):=by
 unfold KV at r
 induction r with
 |nil=>rfl
 |cons h t ih=>rw [List.any_cons,List.any_cons,ih,h.1]
theorem KV.length{kvs:List (κ×V)}{vs:List (κ×Value)}(r:KV kvs vs):kvs.length=vs.length:=Paired.length r
end
abbrev KT(H:Hp):List (List Key×V)->List (List Key×Addr×Value)->Prop:=Paired λp q=>p.1=q.1/\H q.2.1=some (.tup (p.1.map kV))/\RelV p.2 q.2.2
theorem KT.val{H:Hp}{kvs:List (List Key×V)}{xs:List (List Key×Addr×Value)}(r:KT H kvs xs)(k:List Key):RelO (VB kvs k) ((atKey xs k).map (·.2)):=by
 induction r with
 |nil=>exact True.intro
 | @cons p q ps qs h t ih=>
  obtain⟨h1,_,h2⟩:=h
  by_cases e:p.1=k
  · have e':q.1=k:=h1.symm.trans e
    have b:atKey (q::qs) k=some q.2:=by simp [atKey,List.find?_cons,e']
    rw [Zdo e,b];exact h2
  · have e':¬q.1=k:=λz=>e (h1.trans z)
    have b:atKey (q::qs) k=atKey qs k:=by simp [atKey,List.find?_cons,e']
    rw [Zdp e,b];exact ih
section
variable{P:Program}{w:World}{H:Hp}{h:Heap}{a:Addr}
end
def DGet(H:Hp)(a:Addr)(y:V)(r:Option V):Prop:=
 (∃kvs k,Rd H a (.dK kvs)/\y=kV k/\r=VB kvs k)\/∃kvs k b,Rd H a (.dT kvs)/\y = .ref b/\H b=some (.tup (k.map kV))/\r=VB kvs k
def DPut(H:Hp)(a:Addr)(y v:V)(H':Hp):Prop:=
 (∃kvs k,H a=some (.dK kvs)/\y=kV k/\kvs.length<sizeLine/\H'=upd H a (.dK (Zi3 kvs k v))) \/
 ∃kvs k b,H a=some (.dT kvs)/\y = .ref b/\H b=some (.tup (k.map kV))/\kvs.length<sizeLine/\H'=upd H a (.dT (Zi3 kvs k v))
theorem DGet.k{H:Hp}{a:Addr}{kvs:List (Key×V)}{k:Key}(e:H a=some (.dK kvs)):DGet H a (kV k) (VB kvs k) := .inl ⟨kvs,k,.inl e,rfl,rfl⟩
theorem DGet.t{H:Hp}{a b:Addr}{kvs:List (List Key×V)}{k:List Key}(e:H a=some (.dT kvs))(eb:H b=some (.tup (k.map kV))):DGet H a (.ref b) (VB kvs k) := .inr ⟨kvs,k,b,.inl e,rfl,eb,rfl⟩
theorem DPut.k{H:Hp}{a:Addr}{kvs:List (Key×V)}{k:Key}{v:V}(e:H a=some (.dK kvs))(hl:kvs.length<sizeLine):DPut H a (kV k) v (upd H a (.dK (Zi3 kvs k v))) := .inl ⟨kvs,k,e,rfl,hl,rfl⟩
theorem DPut.t{H:Hp}{a b:Addr}{kvs:List (List Key×V)}{k:List Key}{v:V}(e:H a=some (.dT kvs))(eb:H b=some (.tup (k.map kV)))(hl:kvs.length<sizeLine) :
 DPut H a (.ref b) v (upd H a (.dT (Zi3 kvs k v))) := .inr ⟨kvs,k,b,e,rfl,eb,hl,rfl⟩
section
variable{X:Cx}{pins:List (Addr×Obj)}{σ:St}{H:Hp}{s:Shared}{a:Addr}{y v:V}{u r:Value}{o:Option V}{A:Around}{E:Value->Shared->Prop}
end
section
variable{X:Cx}{pins:List (Addr×Obj)}{σ:St}{H:Hp}{s:Shared}{a:Addr}{kvs:List (Key×V)}{k:Key}{u:Value}{A:Around}{E:Value->Shared->Prop}
end
def Zl5(i:Expr):Prop:=∀ov iv,subscripted i false ov iv=operate [ov,iv] (getItem ov iv)
theorem Zhl {prog:Program} {w:World} {A:Around} {E:Value->Shared->Prop} {s:Shared} {env:Env} {value slice:Expr} {pos:Pos} {T id:String} {Q:Value->Shared->Prop}
 (hl:typeLookup (.type T) "__getitem__" = pure (some (.builtin id))) (hs:Zl5 slice)
 (h:wpAny (model prog w) A (eval value env) (λo s₁=>wpAny (model prog w) A (eval slice env) (λi s₂=>s₂.TypeIs o T/\wpAny (model prog w) A (getItem o i) Q E s₂) E s₁) E s) :
 wpAny (model prog w) A (eval (.Subscript value slice pos) env) Q E s:=by
 refine Subscript_ (wpAny_mono h (λo s₁ h₁=>wpAny_mono h₁ (λi s₂ h₂ => ?_) λ_ _ x=>x) λ_ _ x=>x);obtain⟨hT,h₂⟩:=h₂;unfold subscriptTail;refine wpAny_bind ?_;rw [getitemInPython_of_ne hT.not_modules];refine wpAny_bind (wpAny_specialOf hT hl ?_)
 have fin:wpAny (model prog w) A (subscripted slice false o i) (λr s₃=>wpAny (model prog w) A (letTemporaryGo value o r >>= λ_=>pure r) Q E s₃) E s₂:=by
  rw [hs o i];exact wpAny_operating (wpAny_mono h₂ (λr s₃ h₃=>wpAny_bind (wpAny_letTemporaryGo (wpAny_pure h₃))) λ_ _ x=>x)
 first
  |exact wpAny_pure (wpAny_bind fin)
  |exact wpAny_bind (wpAny_pure (wpAny_bind fin))
  |exact wpAny_bind fin
section
variable{X:Cx}{o i e value:Expr}{pos pos' tpos:Pos}{td ty tv:TE}
end
section
variable{X:Cx}{pos:Pos}
end
structure M1(X:Cx)(o:Expr)(m:Str)(apos:Pos)(e:Expr)(cpos:Pos):Prop where
 base:attributeBase o m X.env (eval o X.env)=eval o X.env
 few:((backTo cpos (starEach [e] X.env)).all (λx => !x.1)&&(backToKw cpos (keywordEach [] X.env)).all (λx=>x.1.isSome)
  && decide (([e]:List Expr).length+([]:List Keyword).length+(if([]:List Keyword).isEmpty then 0 else 1)<30))=true
 line:(apos.endLine == cpos.line)=true
 trees:backTo cpos (starEach [e] X.env)=[(false,eval e X.env)]
structure M2(X:Cx)(o:Expr)(m:Str)(apos:Pos)(e f:Expr)(cpos:Pos):Prop where
 base:attributeBase o m X.env (eval o X.env)=eval o X.env
 few:((backTo cpos (starEach [e,f] X.env)).all (λx => !x.1)&&(backToKw cpos (keywordEach [] X.env)).all (λx=>x.1.isSome)
  && decide (([e,f]:List Expr).length+([]:List Keyword).length+(if([]:List Keyword).isEmpty then 0 else 1)<30))=true
 line:(apos.endLine == cpos.line)=true
 trees:backTo cpos (starEach [e,f] X.env)=[(false,eval e X.env),(false,eval f X.env)]
section
variable{X:Cx}{pins:List (Addr×Obj)}{σ:St}{H:Hp}{s:Shared}{a:Addr}{y d:V}{u r:Value}{o:Option V}{A:Around}{E:Value->Shared->Prop}
end
section
variable{X:Cx}{o e f:Expr}{apos cpos:Pos}{td ty tx:TE}
end
section
variable{X:Cx}{pins:List (Addr×Obj)}{σ:St}{H:Hp}{s:Shared}{a:Addr}{kvs:List (Key×V)}{A:Around}{E:Value->Shared->Prop}
end
section
variable{X:Cx}{pins:List (Addr×Obj)}{σ:St}{H:Hp}{s:Shared}{a:Addr}{y:V}{u:Value}{A:Around}{E:Value->Shared->Prop}
end
end L2
namespace DL
open PySem PySem.Spec L2
section
variable{cA:Kn}{av:Addr->Prop}{H:Hp}
end
section
variable{G:Cn}{ow owN owB owC ow1:List Nat}{H0 H:Hp}{av:Addr->Prop}{A:Nat->Option Addr}{σ:L2.St}{δ:Env}
end
end DL
namespace L2
open PySem
end L2
namespace DL
open PySem PySem.Spec L2
section
variable{G:Cn}{ow owN owB owC ow1:List Nat}
end
section
variable{cA:Kn}{G:Cn}{ow owN owB owC ow1:List Nat}{i:Nat}
end
section
variable{P:Program}{w:World}{K:PySem.W.Frag}{mg:Str->Option Value}{base:Heap}{cA:Kn}
open Classical in
end
end DL


namespace PySem
open Builtin SmallTypes
open AutoSeq1 (wpAny_loadPart')
theorem ZaK(x:Str)(t u:Tok) :
 Meets (Builtin.«enumerate.__new__» ⟨[.type "enumerate",.str x t],[("start",.int 1 u)]⟩) (λ_ R s=>
  R (.ok (.ret (.ref (s.heap.push { cls := .type (strIterType x),data := .fields #[.str x t,.int 0 0] }).objs.size)))
   { s with heap:=(s.heap.push { cls := .type (strIterType x),data := .fields #[.str x t,.int 0 0] }).push { cls := .type "enumerate",data := .fields #[.none,.bool false,.ref s.heap.objs.size,rawInt 1,.none,.none] } }):=
 .of_wp λP w A R s h=>by
  obtain⟨hp,gs,dr,tk,os⟩:=s;have sb:=sub_enumerate
  wp_walk using wpAny_pyIter_strU
  refine wpAny_stack_any λfs => ?_
  refine wpAny_pure ?_
  split
  · rename_i q _ _ _ _ _
    cases(q == Value.type "enumerate")<;>(wp_walk using wpAny_pyIter_strU)
    · exact⟨_,rfl,h⟩
    · exact⟨_,rfl,h⟩
  · wp_walk using wpAny_pyIter_strU
    exact⟨_,rfl,h⟩
end PySem
namespace PySem
section
variable{P:Program}{w:World}{A:Around}{E:Value->Shared->Prop}{s:Shared}
theorem ZcQ {x:Str} {t u:Tok} {Q:Value->Shared->Prop}
 (h:∀h',IsEnum h' (s.heap.objs.size+1) s.heap.objs.size 1 .none->h'.IsStrIter s.heap.objs.size (strIterType x) x t 0->(∀b o,s.heap.get? b=some o->h'.get? b=some o)->Q (.ref (s.heap.objs.size+1)) { s with heap:=h' }) :
 wpAny (model P w) A (call (.type "enumerate") [.str x t] [("start",.int 1 u)]) Q E s:=by
 refine Zbf (ZaK x t u) ?_;have hz:(s.heap.push { cls := .type (strIterType x),data := .fields #[.str x t,.int 0 0] }).objs.size=s.heap.objs.size+1:=by rw [Heap.size_push]
 have e0:=Heap.get?_push_size (s.heap.push { cls := .type (strIterType x),data := .fields #[.str x t,.int 0 0] }) (o:={ cls := .type "enumerate",data := .fields #[.none,.bool false,.ref s.heap.objs.size,rawInt 1,.none,.none] }) rfl;rw [hz]at e0;show _/\_;rw [hz];exact⟨⟨_,e0,rfl⟩,h _ e0 ⟨_,Heap.get?_push_of_some _ (Heap.get?_push_size _ rfl),rfl,rfl⟩ λb o x=>Heap.get?_push_of_some _ (Heap.get?_push_of_some _ x)⟩
end
end PySem
namespace L2
open PySem PySem.Spec PyProof.Rows
section
variable{X:Cx}{elts:List Expr}{x1:Nat}{tpos:Pos}
def Zeu(K:PySem.W.Frag)(ta:TA):TI:=λσ H R=>ta σ H λvs H1=>(∃l xs,vs=[.ref l]/\SqL K H1 l xs/\R (Zj1 K 1 l) H1)\/∃cs,vs=[S cs]/\R (ZjZ 1 cs) H1
theorem Ze8 {K:PySem.W.Frag} {a:Expr} {ta:TE} {p pos q1 q2:Pos} {k0} (hg:Gl X "enumerate") (hm:X.mg "enumerate" = none) (ha:PE X a ta) (hs:starEach [a] X.env=[(false,eval a X.env)]:=by rfl) (hK:X.K=K:=by rfl) :
 PI X (.Tuple elts x1 tpos) (.Call (.Name "enumerate" p) [a] [⟨some "start",.Constant (.int 1) k0 q1,q2⟩] pos) (Zeu K (Vj ta tNil)):=by
 subst hK;intro pins s σ H R I h;have e:eval (.Call (.Name "enumerate" p) [a] [⟨some "start",.Constant (.int 1) k0 q1,q2⟩] pos) X.env=(do callWith pos (<-eval (.Name "enumerate" p) X.env) [] (backTo pos (starEach [a] X.env)) (backToKw pos (keywordEach [⟨some "start",.Constant (.int 1) k0 q1,q2⟩] X.env))):=rfl;rw [e];refine wpAny_bind (Q0 I hg hm boot_enumerate ?_);refine Zcu (by rw [hs];rfl) (by rfl) ?_
 refine evalArgs_kw2 (by rfl) ?_ hs;refine thn ((Zc ha Zh hs) pos pins s σ H _ I h) λus s1 ⟨vs,H1,I1,r1,qq⟩ => ?_
 refine thn ((Zg2 (e:=.Constant (.int 1) k0 q1) Zl Zip) pos pins s1 σ H1 (λks H2=>ks=[.int 1]/\H2=H1) I1 ⟨rfl,rfl⟩) λks s2 ⟨vk,H2,I2,rk,ek⟩ => ?_
 obtain⟨rfl,rfl⟩:=ek;obtain⟨w2,rfl,t2,rfl⟩:=Xf rk;rcases qq with⟨l,xs,ev,hq,q⟩|⟨cs,ev,q⟩
 · subst ev
   obtain⟨w1,rfl,rx⟩:=Xf r1;cases rx;obtain⟨its,rv,pl,hz⟩:=I2.list hq;show wpAny _ _ (call (.type "enumerate") [.ref l] [("start",.int 1 t2)]) _ _ _;refine ZdT pl.isList λh' he st k => ?_
   refine wpAny_pyIter_enum he ?_;have I3:Inv X pins σ H2 { s2 with heap:=h' }:=I2.kept (t':=s2.toks) k;refine⟨s2.heap.objs.size+1,[s2.heap.objs.size+1,s2.heap.objs.size],_,_,H2,rfl,I3,ZdV (s2.heap.objs.size+1) s2.heap.objs.size l (Nat.succ_ne_self _) 1,⟨⟨_,he⟩,st⟩,λb hb => ?_,q⟩
   have hb':s2.heap.objs.size<=b:=by
    simp at hb;rcases hb with rfl|rfl
    · exact Nat.le_succ _
    · exact Nat.le_refl _
   exact I2.fpOk hb' (I2.hok.fresh hb')
 · subst ev
   obtain⟨w1,rfl,t,rfl⟩:=Xf r1;show wpAny _ _ (call (.type "enumerate") [.str (tx cs) t] [("start",.int 1 t2)]) _ _ _;refine ZcQ λh' he st k => ?_
   refine wpAny_pyIter_enum he ?_;have I3:Inv X pins σ H2 { s2 with heap:=h' }:=I2.kept (t':=s2.toks) k;refine⟨s2.heap.objs.size+1,[s2.heap.objs.size+1,s2.heap.objs.size],_,_,H2,rfl,I3,ZdN (s2.heap.objs.size+1) s2.heap.objs.size (Nat.succ_ne_self _) 1 cs t,⟨⟨Nat.zero_le _,_,he⟩,st⟩,λb hb => ?_,q⟩
   have hb':s2.heap.objs.size<=b:=by
    simp at hb;rcases hb with rfl|rfl
    · exact Nat.le_succ _
    · exact Nat.le_refl _
   exact I2.fpOk hb' (I2.hok.fresh hb')
end
end L2
namespace DL
open PySem PySem.Spec L2
section
variable{cA:Kn}{G:Cn}{ow:List Nat}
def QA(ε:Env->Option D)(δ:Env):Option (List D):=match ε δ with
 |some (.lst xs)=>some (XX 1 xs)
 |some (.str cs)=>some (XX 1 (cs.map λc => .str [c]))
 |_=>none
theorem Ze9{ta:TE}{ε:Env->Option D}(h:VE G ow ta .cl ε):VI G ow (Zeu G.1.K (Vj ta tNil)) (QA ε):=λH0 av A σ H δ E xs e R k=>by
 unfold QA at e;cases he:ε δ with
 |none=>rw [he]at e;cases e
 |some d=>
  rw [he]at e;cases d<;>first|(cases e;done)|skip
  · cases e
    refine h H0 av A σ H δ E _ he _ λv H1 s r => ?_
    have e1:v=S _:=r;subst e1;exact .inr ⟨_,rfl,k _ H1 s ZcM⟩
  · cases e
    refine h H0 av A σ H δ E _ he _ λv H1 s r => ?_
    obtain⟨a,vs,rfl,na,rd,l⟩:=r;exact .inl ⟨a,vs,rfl,rd,k _ H1 s (ZcP (Zd5 na rd λb o n e=>by rw [UR λ⟨i,z⟩=>n (.inr ⟨i,z⟩)];exact e) l.cut)⟩
end
end DL

namespace L2
open PySem PySem.Spec PySem.W PyProof.Rows
structure RoomE(k:Nat)(A:Around):Prop where
 dp:A.depth+3*k+5<recursionLimit
 un:A.units+16*k+200<cLine
structure FnOkE(P:Program)(w:World)(K:PySem.W.Frag)(mg:Str->Option Value)(base:Heap)(k:Nat)(f:Addr)(fd:FuncData)(ps:List Str)(sp:List V->Hp->VK->Prop):Prop where
 len:∀vs H Q,sp vs H Q->vs.length=ps.length
 run:∀(A:Around)(outer:List PySem.Env)(s:Shared)(H:Hp)(args:Args)(us:List Value)(vs:List V)(Q:VK),RoomE k A->Env0 P w K mg base A outer s H->BindsTo s fd args (ps.zip us)->Vals vs us->sp vs H Q ->
  codeAny (model P w) A (.call (.ref f) args) (CR CX0 outer P w H s Q E0) s
end L2
namespace DL
open PySem PySem.Spec L2
def ZiF(K:PySem.W.Frag)(cA:Kn)(i:Nat)(mk:Addr->Addr->TE)(tab:List (String×Bool)):Prop:=∀(c:String)(b:Bool)(ea:Addr)(σ:L2.St)(H:Hp)(Q:VK),ExCls K (cA.c c)->tab.lookup c=some b->σ[i]? = some (some (.ref ea))->H ea=some (.ext (UY ea (.ref (cA.c c))))->(∀H',Same H H'->Q (.bl b) H')->mk (cA.c c) ea σ H Q
inductive Items(K:PySem.W.Frag)(cA:Kn)(i:Nat):List (Addr->Addr->TE)->List (List (String×Bool))->Prop where
 |nil:Items K cA i [] []
 |cons {m:Addr->Addr->TE} {t:List (String×Bool)} {ms:List (Addr->Addr->TE)} {ts:List (List (String×Bool))}:ZiF K cA i m t->Items K cA i ms ts->Items K cA i (m::ms) (t::ts)
section
variable{cA:Kn}{G:Cn}{ow owB owC:List Nat}
end
end DL

namespace L2
open PySem PySem.Spec PyProof.Rows
section
variable{X:Cx}
end
end L2
namespace DL
open PySem PySem.Spec L2
section
variable{cA:Kn}{G:Cn}{ow owN owB owC ow1:List Nat}{i:Nat}
mutual
def frz:D->Bool
 | .non=>true
 | .bl _=>true
 | .int _=>true
 | .str _=>true
 | .lst _=>false
 | .tup xs=>frzL xs
 | .obj _ _ xs=>frzL xs
 | .dct _ _=>false
 | .dtt _ _=>false
 | .clo _ _=>false
def frzL:List D->Bool
 | []=>true
 |x::xs=>frz x&&frzL xs
end
mutual
theorem Rep.frz{av av':Addr->Prop}{H:Hp}:∀{d:D}{v:V},frz d=true->(∀b,av' b->av b\/∃vs,H b=some (.lst vs))->Rep cA av H d v->Rep cA av' H d v
 | .non,_,_,_,h=>h
 | .bl _,_,_,_,h=>h
 | .int _,_,_,_,h=>h
 | .str _,_,_,_,h=>h
 | .lst xs,v,hf,k,h=>by cases hf
 | .tup xs,v,hf,k,h=>by
  unfold DL.frz at hf;unfold Rep at h ⊢;obtain⟨a,vs,e,n,r,l⟩:=h;exact⟨a,vs,e,λz=>(k a z).elim n (by rw [r];exact λ⟨_,z⟩=>by cases z),r,RepL.frz hf k l⟩
 | .obj c ks xs,v,hf,k,h=>by
  unfold DL.frz at hf;unfold Rep at h ⊢;obtain⟨a,dx,vs,e,n,r,z,l⟩:=h;exact⟨a,dx,vs,e,λz=>(k a z).elim n (by rw [r];exact λ⟨_,z⟩=>by cases z),r,z,RepL.frz hf k l⟩
 | .dct ks xs,v,hf,k,h=>by cases hf
 | .dtt ks xs,v,hf,k,h=>by cases hf
 | .clo c r,v,hf,k,h=>by cases hf
theorem RepL.frz{av av':Addr->Prop}{H:Hp}:∀{xs:List D}{vs:List V},frzL xs=true->(∀b,av' b->av b\/∃vs,H b=some (.lst vs))->RepL cA av H xs vs->RepL cA av' H xs vs
 | [],_,_,_,h=>h
 |x::xs,vs,hf,k,h=>by
  unfold DL.frzL at hf;rw [Bool.and_eq_true]at hf;unfold RepL at h ⊢;obtain⟨v,r,e,h1,h2⟩:=h;exact⟨v,r,e,Rep.frz hf.1 k h1,RepL.frz hf.2 k h2⟩
end
end
end DL
namespace PySem
open Sem (wp)
section
variable{prog:Program}{w:World}{A:Around}{E:Value->Shared->Prop}{s:Shared}
end
def IsQI(k:Bool)(h:Heap)(a l:Addr)(i:Nat):Prop:=match k with
 |true=>h.IsTupleIter a l i
 |false=>h.IsListIter a l i
def IsQ(k:Bool)(h:Heap)(l:Addr)(xs:Array Value):Prop:=match k with
 |true=>h.IsTuple l xs
 |false=>h.IsList l xs
theorem IsQI.get{k:Bool}{h:Heap}{a l:Addr}{i:Nat}(x:IsQI k h a l i):∃o,h.get? a=some o/\o.data = .fields #[.ref l,.int i 0]:=by
 cases k with
 |true=>obtain⟨o,e,_,d⟩:=x;exact⟨o,e,d⟩
 |false=>obtain⟨o,e,_,d⟩:=x;exact⟨o,e,d⟩
theorem IsQI.at{k:Bool}{h h':Heap}{a l:Addr}{i:Nat}(x:IsQI k h a l i)(f:∀o,h.get? a=some o->h'.get? a=some o):IsQI k h' a l i:=by
 cases k with
 |true=>obtain⟨o,e,r⟩:=x;exact⟨o,f o e,r⟩
 |false=>obtain⟨o,e,r⟩:=x;exact⟨o,f o e,r⟩
theorem IsQI.ext{k:Bool}{h h':Heap}{a b l:Addr}{i:Nat}(x:IsQI k h a l i)(hs:Heap.ExtBut b h h')(n:a≠b):IsQI k h' a l i:=x.at λo e=>hs a o n e
theorem IsQ.at{k:Bool}{h h':Heap}{l:Addr}{xs:Array Value}(x:IsQ k h l xs)(f:∀o,h.get? l=some o->h'.get? l=some o):IsQ k h' l xs:=by
 cases k with
 |true=>obtain⟨o,e,r⟩:=x;exact⟨o,f o e,r⟩
 |false=>obtain⟨o,e,r⟩:=x;exact⟨o,f o e,r⟩
theorem IsQ.ext{k:Bool}{h h':Heap}{b l:Addr}{xs:Array Value}(x:IsQ k h l xs)(hs:Heap.ExtBut b h h')(n:l≠b):IsQ k h' l xs:=x.at λo e=>hs l o n e
theorem IsQ.lt{k:Bool}{h:Heap}{l:Addr}{xs:Array Value}(x:IsQ k h l xs):l<h.objs.size:=by
 cases k with
 |true=>obtain⟨o,e,_⟩:=x;exact Heap.lt_size e
 |false=>obtain⟨o,e,_⟩:=x;exact Heap.lt_size e
section
variable{prog:Program}{w:World}{A:Around}{E:Value->Shared->Prop}{s:Shared}
end
section
variable{prog:Program}{w:World}{A:Around}{E:Value->Shared->Prop}{s:Shared}
end
end PySem
namespace L2
open PySem PySem.Spec PyProof.Rows
section
variable{X:Cx}{elts:List Expr}{x1:Nat}{tpos:Pos}
end
end L2
namespace DL
open PySem PySem.Spec L2
section
variable{cA:Kn}{G:Cn}{ow:List Nat}
end
end DL
namespace DL
open PySem PySem.Spec PyProof.Rows L2
section
variable{X:Cx}{K:PySem.W.Frag}{cA:Kn}
variable{G:Cn}{ow:List Nat}
open Classical in
end
end DL
namespace DL
open PySem PySem.Spec L2
section
variable{cA:Kn}{av:Addr->Prop}{H:Hp}
end
section
variable{G:Cn}{ow owN owB owC ow1:List Nat}{H0 H:Hp}{av:Addr->Prop}{A:Nat->Option Addr}{σ:L2.St}{δ:Env}
end
end DL
namespace L2
open PySem PySem.Spec PyProof.Rows
section
variable{X:Cx}
end
end L2
namespace DL
open PySem PySem.Spec L2
section
variable{G:Cn}{ow owN owB owC ow1:List Nat}
open Classical in
end
end DL
namespace L2
open PySem PySem.Spec PyProof.Rows
section
variable{X:Cx}
end
end L2
namespace DL
open PySem PySem.Spec L2
section
variable{G:Cn}{ow owN owB owC ow1:List Nat}
end
end DL
namespace DL
open PySem PySem.Spec L2
section
variable{cA:Kn}{G:Cn}{ow owN owB owC:List Nat}
end
end DL
namespace DL
open PySem PySem.Spec L2
section
variable{X:Cx}{cA:Kn}
open Classical in
end
end DL
namespace DL
open PySem PySem.Spec L2
section
variable{cA:Kn}{G:Cn}{ow owN owB owC ow1:List Nat}{i:Nat}{H0 H H':Hp}{av:Addr->Prop}{A:Nat->Option Addr}{σ:L2.St}{δ:Env}
open Classical in
end
end DL
namespace DL
open PySem PySem.Spec L2
section
variable{cA:Kn}{G:Cn}{ow owN owB owC ow1:List Nat}{i:Nat}{H0 H H':Hp}{av:Addr->Prop}{A A':Nat->Option Addr}{σ σ':L2.St}{δ δ1:Env}
end
end DL
namespace DL
open PySem PySem.Spec L2
section
variable{cA:Kn}{G:Cn}{ow owN owB owC ow1:List Nat}{i:Nat}
open Classical in
end
end DL
namespace DL
open PySem PySem.Spec L2
section
variable{G:Cn}{ow ow1:List Nat}
end
end DL
namespace L2
open PySem PySem.Spec PyProof.Rows
theorem Jm{x:Str}{c:Addr}:∀(names:List (Str×NameKind))(n:Nat)(acc:List (Str×Addr)),(cellsFrom n names acc).lookup x=some c->(n<=c/\(x,NameKind.cell)∈names)\/acc.lookup x=some c
 | [],n,acc,h => .inr h
 |(y,k)::r,n,acc,h=>by
  unfold cellsFrom at h
  by_cases hk:(k == .cell)=true
  · rw [if_pos hk]at h
    have hk':k = .cell:=by simpa using hk
    subst hk';rcases Jm r (n+1) _ h with⟨h1,h2⟩|h1
    · exact .inl ⟨by omega,List.mem_cons_of_mem _ h2⟩
    · rw [List.lookup_cons]at h1
      cases hx:x == y with
      |true=>
       rw [hx]at h1;have e:n=c:=Option.some.inj h1;have e2:x=y:=eq_of_beq hx;subst e2;exact .inl ⟨by omega,List.mem_cons_self⟩
      |false=>rw [hx]at h1;exact .inr h1
  · rw [if_neg hk]at h
    rcases Jm r n acc h with⟨h1,h2⟩|h1
    · exact .inl ⟨h1,List.mem_cons_of_mem _ h2⟩
    · exact .inr h1
theorem Zal{x:Str}{c:Addr}:∀(names:List (Str×NameKind))(n:Nat)(acc:List (Str×Addr)),(x,NameKind.cell)∈names->(cellsFrom n names acc).lookup x=some c->n<=c
 |(y,k)::r,n,acc,hm,h=>by
  unfold cellsFrom at h
  by_cases hk:(k == .cell)=true
  · rw [if_pos hk]at h
    rcases List.mem_cons.mp hm with e|e
    · cases e
      rcases Jm r (n+1) _ h with⟨h1,_⟩|h1
      · omega
      · rw [List.lookup_cons]at h1
        simp at h1;exact Nat.le_of_eq h1
    · have:=Zal r (n+1) _ e h
      omega
  · rw [if_neg hk]at h
    rcases List.mem_cons.mp hm with e|e
    · cases e
      exact absurd rfl hk
    · exact Zal r n acc e h
theorem cellsFrom_some{x:Str}:∀(names:List (Str×NameKind))(n:Nat)(acc:List (Str×Addr)),((x,NameKind.cell)∈names\/∃c,acc.lookup x=some c)->∃c,(cellsFrom n names acc).lookup x=some c
 | [],n,acc,h=>h.elim (λz=>nomatch z) id
 |(y,k)::r,n,acc,h=>by
  unfold cellsFrom
  by_cases hk:(k == .cell)=true
  · rw [if_pos hk]
    refine cellsFrom_some r (n+1) _ ?_;cases hx:x == y with
    |true=>exact .inr ⟨n,by rw [List.lookup_cons,hx]⟩
    |false=>
     rcases h with h|⟨c,h⟩
     · rcases List.mem_cons.mp h with e|e
       · cases e
         simp at hx
       · exact .inl e
     · exact .inr ⟨c,by rw [List.lookup_cons,hx];exact h⟩
  · rw [if_neg hk]
    refine cellsFrom_some r n acc ?_;rcases h with h|h
    · rcases List.mem_cons.mp h with e|e
      · cases e
        exact absurd rfl hk
      · exact .inl e
    · exact .inr h
theorem Zaf{x:Str}:∀(names:List (Str×NameKind))(n:Nat)(acc:List (Str×Addr)),(x,NameKind.cell)∉names->(cellsFrom n names acc).lookup x=acc.lookup x
 | [],_,_,_=>rfl
 |(y,k)::r,n,acc,h=>by
  unfold cellsFrom;have hr:(x,NameKind.cell)∉r:=λz=>h (List.mem_cons_of_mem _ z)
  by_cases hk:(k == .cell)=true
  · rw [if_pos hk,Zaf r (n+1) _ hr,List.lookup_cons]
    have hk':k = .cell:=by simpa using hk
    cases hx:x == y with
    |true=>
     have e2:x=y:=eq_of_beq hx;exact absurd (by rw [e2,hk'];exact List.mem_cons_self) h
    |false=>rfl
  · rw [if_neg hk]
    exact Zaf r n acc hr
theorem Zam{x y:Str}{c:Nat}:∀(names:List (Str×NameKind))(n:Nat)(acc:List (Str×Addr)),(∀(z:Str)(d:Nat),acc.lookup z=some d->d<n)->n<=c->(cellsFrom n names acc).lookup x=some c->(cellsFrom n names acc).lookup y=some c->x=y
 | [],n,acc,ha,hn,h1,h2=>by
  have:=ha x c h1;omega
 |(z,k)::r,n,acc,ha,hn,h1,h2=>by
  unfold cellsFrom at h1 h2
  by_cases hk:(k == .cell)=true
  · rw [if_pos hk]at h1 h2
    by_cases hc:c=n
    · subst hc
      have one:∀{w:Str},(cellsFrom (c+1) r ((z,c)::acc)).lookup w=some c->w=z:=λ{w} hw=>by
       rcases Jm r (c+1) _ hw with⟨q,_⟩|q
       · omega
       · rw [List.lookup_cons]at q
         cases hx:w == z with
         |true=>exact eq_of_beq hx
         |false=>
          rw [hx]at q;have:=ha w c q;omega
      rw [one h1,one h2]
    · refine Zam r (n+1) _ (λw d hw => ?_) (by omega) h1 h2
      rw [List.lookup_cons]at hw;cases hx:w == z with
      |true=>rw [hx]at hw;have e:n=d:=Option.some.inj hw;exact Nat.lt_succ_of_le (Nat.le_of_eq e.symm)
      |false=>rw [hx]at hw;exact Nat.lt_succ_of_lt (ha w d hw)
  · rw [if_neg hk]at h1 h2
    exact Zam r n acc ha hn h1 h2
theorem Zag{lo:Nat}:∀(names:List (Str×NameKind))(h:Heap)(acc:List (Str×Addr)),(∀z d,acc.lookup z=some d->lo<=d->h.IsCell d none)->∀{x:Str}{c:Addr},(cellsFrom h.objs.size names acc).lookup x=some c->lo<=c->(pushCells h names).IsCell c none
 | [],h,acc,ha,x,c,h1,h2=>ha x c h1 h2
 |(z,k)::r,h,acc,ha,x,c,h1,h2=>by
  unfold cellsFrom at h1;unfold pushCells
  by_cases hk:(k == .cell)=true
  · rw [if_pos hk]at h1 ⊢
    have e:h.objs.size+1=(h.push { cls := .type "cell",data := .cell none }).objs.size:=(Heap.size_push ..).symm;rw [e]at h1;refine Zag r _ _ (λw d hw hd => ?_) h1 h2;rw [List.lookup_cons]at hw;cases hx:w == z with
    |true=>
     rw [hx]at hw;have q:h.objs.size=d:=Option.some.inj hw;rw [<-q];exact⟨_,Heap.get?_push_size _ rfl,rfl⟩
    |false=>
     rw [hx]at hw;exact(ha w d hw hd).keeps λb o e=>Heap.get?_push_of_some _ e
  · rw [if_neg hk]at h1 ⊢
    exact Zag r h acc ha h1 h2
theorem ZaT {M:Model} {A:Around} {E:Value->Shared->Prop} {s:Shared} {scope:Scope} {globals:Addr} {closure:List (Str×Addr)} {qual:Str} {func:Option Addr} {code:Value} {outer:Env} {builtins:Addr} {Q:Env->Shared->Prop}
 (hQ:Q (newEnv scope s.heap.objs.size globals (cellsFrom (s.heap.objs.size+1) scope.names closure) qual func code (some outer) builtins) { s with heap:=pushCells (s.heap.push { cls := .type "dict",data := .dict #[] }) scope.names }) :
 wpAny M A (newFunctionEnv scope globals closure [] qual func code (some outer) builtins) Q E s:=by
 simp only [newFunctionEnv,Option.isSome_some,if_true];refine wpAny_bind (wpAny_alloc ?_);refine wpAny_bind (wpAny_layCells _ (λname kind cells=>by cases hkc:kind == NameKind.cell<;>simp [hkc]) _ _ _ _ ?_);rw [show({ s with heap:=s.heap.push { cls := .type "dict",data := .dict #[] } }:Shared).heap.objs.size=s.heap.objs.size+1 from Heap.size_push ..];simp only [List.forIn_nil];exact wpAny_bind (wpAny_pure (wpAny_pure hQ))
structure CompSd(X:Cx)(scope:Scope)(tn cn:List Str)(js:List Nat):Prop where
 kind:scope.kind = .function
 own:∀y∈scope.names,y.2 = .cell->scope.names.lookup y.1=some .cell
 names:∀y∈scope.names,y.2 = .local->scope.names.lookup y.1=some .local
 free:∀y∈scope.names,y.2 = .free->X.env.kindOf y.1=some .cell\/X.env.kindOf y.1=some .free
 cap:∀(k:Nat)(x:Str),cn[k]? = some x->∃j,js[k]? = some j/\X.N[j]? = some x/\(X.env.kindOf x=some .cell\/X.env.kindOf x=some .free)/\scope.names.lookup x=some .free
 len:cn.length=js.length
def ZcD(onames:List (Str×NameKind))(oN:List Str)(names:List (Str×NameKind))(cn:List Str)(js:List Nat):Bool:=
 names.all (λy => !(y.2 == .cell)||(names.lookup y.1 == some .cell))&&names.all (λy => !(y.2 == .local)||(names.lookup y.1 == some .local)) &&
 names.all (λy => !(y.2 == .free)||(onames.lookup y.1 == some .cell||onames.lookup y.1 == some .free)) &&
 ((cn.zip js).all λp=>oN[p.2]? == some p.1&&(onames.lookup p.1 == some .cell||onames.lookup p.1 == some .free)&&names.lookup p.1 == some .free)&&(cn.length == js.length)
def UZ(X:Cx)(scope:Scope)(C:Addr):List (Str×Addr):=cellsFrom (C+1) scope.names (XD X.env.cells scope.names [])
def Xl(X:Cx)(scope:Scope)(N':List Str)(C:Addr)(s₂:Shared)(H₂:Hp)(fp:List Addr)(xe:Value->Shared->Prop):Cx:=
 { X with N:=N',s₀:=s₂,H₀:=H₂,env:=compEnvC scope (UZ X scope C) C X.env,outer:=X.stack,ex:=fp,fn:=λx=>scope.names.lookup x == some .cell,pn:=[],xe:=xe }
section
variable{X:Cx}{pins:List (Addr×Obj)}{σ:St}{H₂:Hp}{s₂:Shared}{scope:Scope}{tn cn:List Str}{js:List Nat}
theorem CompSd.clos(S:CompSd X scope tn cn js)(ok:X.Ok):∀y∈scope.names,y.2 = .free->∃c,X.env.cells.lookup y.1=some c:=λy hy e=>ok.has y.1 (S.free y hy e)
theorem U0{C:Addr}(S:CompSd X scope tn cn js)(ok:X.Ok){x:Str}{c:Addr}(h:(UZ X scope C).lookup x=some c):(C+1<=c/\(x,NameKind.cell)∈scope.names)\/X.env.cells.lookup x=some c:=by
 rcases Jm _ _ _ h with q|q
 · exact .inl q
 · exact .inr (Q7 _ [] (S.clos ok) (λ_ z=>by cases z) q)
theorem Zay{env:Env}:∀{names:List (Str×NameKind)}{x:Str}{k:NameKind},(names.map λ(n,k)=>if(k == NameKind.free&&env.scope.kind == .function&&env.kindOf n == some .cell)then(n,NameKind.cell)else(n,k)).lookup x=some k ->
 (k = .cell\/k = .free)->(x,NameKind.free)∈names\/(x,NameKind.cell)∈names
 | [],_,_,h,_=>by simp at h
 |(n,k0)::r,x,k,h,hk=>by
  have ih := @Zay env r x k;have more:((x,NameKind.free)∈r\/(x,NameKind.cell)∈r)->(x,NameKind.free)∈(n,k0)::r\/(x,NameKind.cell)∈(n,k0)::r:=λz=>z.elim (λz => .inl (List.mem_cons_of_mem _ z)) λz => .inr (List.mem_cons_of_mem _ z)
  have h:List.lookup x ((if(k0 == NameKind.free&&env.scope.kind == .function&&env.kindOf n == some .cell)=true then(n,NameKind.cell)else(n,k0))::_)=_:=h
  by_cases hb:(k0 == NameKind.free&&env.scope.kind == .function&&env.kindOf n == some .cell)=true
  · rw [if_pos hb,List.lookup_cons]at h
    have e0:k0 = .free:=by
     simp only [Bool.and_eq_true]at hb;simpa using hb.1.1
    cases hx:x == n with
    |true=>
     have e:x=n:=eq_of_beq hx;subst e;subst e0;exact .inl List.mem_cons_self
    |false=>
     rw [hx]at h;exact more (ih h hk)
  · rw [if_neg hb,List.lookup_cons]at h
    cases hx:x == n with
    |true=>
     rw [hx]at h;have e:x=n:=eq_of_beq hx;have e0:k0=k:=Option.some.inj h;subst e;subst e0;rcases hk with hk|hk
     · subst hk;exact .inr List.mem_cons_self
     · subst hk;exact .inl List.mem_cons_self
    |false=>
     rw [hx]at h;exact more (ih h hk)
theorem ZfT{C:Addr}{fp:List Addr}{xe:Value->Shared->Prop}(S:CompSd X scope tn cn js)(I:Inv X pins σ H₂ s₂)(hC:s₂.heap.objs.size<=C)(hf:∀b∈fp,XV X pins H₂ b)(ho:∀b∈fp,∃o,s₂.heap.get? b=some o/\∀v,o.data ≠ .cell v) :
 (Xl X scope (tn++cn) C s₂ H₂ fp xe).Ok where
 mod:=I.ok.mod
 kind:=S.kind
 glob:=I.ok.glob
 blt:=I.ok.blt
 above:=hC
 inj:=λx y c h1 h2=>by
  have old:∀{x:Str}{c:Nat},X.env.cells.lookup x=some c->Nat.lt c C:=λ{x c} h=>by
   obtain⟨v,o,q,_⟩:=I.cell x c h;exact Nat.lt_of_lt_of_le (Heap.lt_size q) hC
  rcases U0 S I.ok h1 with⟨q1,_⟩|q1
  · exact Zam scope.names (C+1) _ (λz d hz=>Nat.lt_succ_of_lt (old (Q7 _ [] (S.clos I.ok) (λ_ z=>by cases z) hz))) q1 h1 h2
  · rcases U0 S I.ok h2 with⟨q2,_⟩|q2
    · exact absurd (Nat.lt_of_lt_of_le (Nat.lt_succ_of_lt (old q1)) q2) (Nat.lt_irrefl _)
    · exact I.ok.inj x y c q1 q2
 has:=λx hx=>by
  have hm:(x,NameKind.free)∈scope.names\/(x,NameKind.cell)∈scope.names:=by
   rcases hx with hx|hx
   · exact Zay (env:=X.env) (k:=.cell) hx (Or.inl (Eq.refl NameKind.cell))
   · exact Zay (env:=X.env) (k:=.free) hx (Or.inr (Eq.refl NameKind.free))
  refine cellsFrom_some _ _ _ ?_;rcases hm with hm|hm
  · exact .inr (Za2 _ _ (.inl hm))
  · exact .inl hm
 cab:=λx c h1 h2=>by
  have e:scope.names.lookup x=some .cell:=by
   have q:(scope.names.lookup x == some .cell)=true:=h1;simpa using q
  exact Nat.le_trans hC (Nat.le_of_succ_le (Zal _ _ _ (PySem.mem_of_lookup e) h2))
 hd:=I.ok.hd
 frames:=I.ok.frames
 stk := .inl rfl
 exf:=λb hb=>by
  obtain⟨o,e,_⟩:=ho b hb;obtain⟨_,_,_,_,f4,_⟩:=hf b hb;have hbC:b<C:=Nat.lt_of_lt_of_le (Heap.lt_size e) hC;refine⟨Nat.ne_of_lt hbC,λx c h => ?_⟩;rcases U0 S I.ok h with⟨q,_⟩|q
  · exact Nat.ne_of_gt (Nat.lt_of_lt_of_le hbC (Nat.le_of_succ_le q))
  · exact f4 x c q
 bs:=I.bs
 bsz:=Nat.le_trans I.ok.bsz I.sz
 noex:=λb o e hb=>by
  obtain⟨_,_,_,f3,_,_⟩:=hf b hb;rcases f3 with z|z
  · exact I.ok.noex b o e z
  · exact absurd (Nat.lt_of_lt_of_le (Heap.lt_size (I.ok.bs b o e).1) z) (Nat.lt_irrefl _)
 exfs:=λb hb z=>by
  obtain⟨_,f1,f2,_,_,_⟩:=hf b hb;exact(List.mem_cons.mp (I.stkSub b z)).elim f1 f2
 funs:=I.stack
 frf:=I.stkFree
 tb:=I.tabs
theorem Zbx {C:Addr} {fp:List Addr} {s:Shared} {H:Hp} {m:Str->Option Value} (S:CompSd X scope tn cn js) (I:Inv X pins σ H₂ s₂) (hf:∀b∈fp,XV X pins H₂ b)
 (u:Un (frs X.stack) fp H₂ H s₂.heap s.heap) :
 ∀(i:Nat)(x:Str)(v:V),(tn++cn)[i]? = some x->(blk tn.length σ js)[i]? = some (some v)->∃z,RelV v z/\ZlN (compEnvC scope (UZ X scope C) C X.env) s.heap m x z:=by
 intro i x v e1 e2;unfold blk at e2
 by_cases hi:i<tn.length
 · rw [List.getElem?_append_left (by simpa using hi),List.getElem?_replicate,if_pos hi]at e2
   cases e2
 · have hi':tn.length<=i:=by omega
   rw [List.getElem?_append_right hi']at e1;rw [List.getElem?_append_right (by simpa using hi'),List.length_replicate]at e2;obtain⟨j,hj,hN,hk,hm⟩:=S.cap _ _ e1;unfold pick at e2;rw [List.getElem?_map,hj]at e2;have e3:(σ[j]?).getD none=some v:=Option.some.inj e2
   have e4:σ[j]? = some (some v):=by
    cases q:σ[j]? with
    |none=>rw [q]at e3;cases e3
    |some z=>rw [q]at e3;exact congrArg some e3
   obtain⟨m0,_,hl⟩:=I.loc
   have hv:Vis X.env.scope x:=by
    rcases hk with hk|hk
    · exact .inr (.inl hk)
    · exact .inr (.inr hk)
   obtain⟨z,rz,l⟩:=hl j x v hN e4 hv;refine⟨z,rz,?_⟩
   obtain⟨c,hc,ob,ho,hd⟩:∃c,X.env.cells.lookup x=some c/\s₂.heap.IsCell c (some z):=by
    rcases l with⟨k,_⟩|⟨_,c,hc,q⟩
    · rcases hk with hk|hk
      · rw [hk]at k;cases k
      · rw [hk]at k;cases k
    · exact⟨c,hc,q⟩
   have hnc:(x,NameKind.cell)∉scope.names:=λz=>by
    have q:=S.own _ z rfl;have q:scope.names.lookup x=some .cell:=q;rw [hm]at q;cases q
   obtain⟨c',hc'⟩:=Za2 (cells:=X.env.cells) (x:=x) scope.names [] (.inl (PySem.mem_of_lookup hm));have hcY:(UZ X scope C).lookup x=some c':=(Zaf _ _ _ hnc).trans hc'
   have ec:c'=c:=by
    have:=Q7 _ [] (S.clos I.ok) (λ_ z=>by cases z) hc';rw [hc]at this;exact(Option.some.inj this).symm
   subst ec;have nf:c'∉fp:=λhb=>(hf c' hb).2.2.2.2.1 x c' hc rfl
   obtain⟨sl,q⟩:=u.any ho (I.freeC x c' hc) nf;exact .inr ⟨ZaL hm,c',hcY,⟨_,q,hd⟩⟩
theorem Zdq(S:CompSd X scope tn cn js):(blk tn.length σ js).length=(tn++cn).length:=by
 unfold blk pick;rw [List.length_append,List.length_append,List.length_replicate,List.length_map,S.len]
theorem ZcR {C:Addr} {fp:List Addr} {xe:Value->Shared->Prop} {s:Shared} {H:Hp} {σ':St} {pins':List (Addr×Obj)} (S:CompSd X scope tn cn js) (I:Inv X pins σ H₂ s₂) (hf:∀b∈fp,XV X pins H₂ b)
 (I':Inv (Xl X scope (tn++cn) C s₂ H₂ fp xe) pins' σ' H s):Inv (Xl X scope (tn++cn) C s₂ H₂ fp xe) pins' (blk tn.length σ js) H s:=by
 obtain⟨m,hn,_⟩:=id I'.loc;exact⟨I'.ok,I'.os,I'.bare,I'.base,⟨m,hn,λi x v e1 e2 _=>Zbx S I hf I'.base i x v e1 e2⟩,I'.cell,I'.free,I'.freeC,I'.pin,I'.hok,Zdq S,I'.fzs⟩
theorem ZcS {C D:Addr} {fp:List Addr} {xe:Value->Shared->Prop} {h:Heap} {tk:Nat} {ob:Obj} {m:Str->Option Value} (S:CompSd X scope tn cn js) (I:Inv X pins σ H₂ s₂) (hC:s₂.heap.objs.size<=C) (hD:s₂.heap.objs.size<=D) (hDC:D≠C)
 (hf:∀b∈fp,XV X pins H₂ b) (ho:∀b∈fp,∃o,s₂.heap.get? b=some o/\∀v,o.data ≠ .cell v) (k:∀b o,s₂.heap.get? b=some o->h.get? b=some o) (hn:h.Ns C m) (hob:h.get? D=some ob) (hcell:∀v,ob.data ≠ .cell v) (hcs:∀x c,(UZ X scope C).lookup x=some c->C+1<=c->h.IsCell c none) :
 Inv (Xl X scope (tn++cn) C s₂ H₂ fp xe) [(D,ob)] (blk tn.length σ js) H₂ { s₂ with heap:=h,toks:=tk }:=by
 have ok:=ZfT (xe:=xe) S I hC hf ho;have u:Un (frs X.stack) fp H₂ H₂ s₂.heap h:=Un.kept k;refine⟨ok,rfl,I.bare,u,⟨m,hn,λi x v e1 e2 _=>Zbx (s:={ s₂ with heap:=h,toks:=tk }) S I hf u i x v e1 e2⟩,λx c e => ?_,I.hok.fresh hC,λx c e => ?_,λp hp => ?_,I.hok.kept k,Zdq S,I.fzs⟩
 · rcases U0 S I.ok e with⟨z,_⟩|z
   · exact⟨none,hcs x c e z⟩
   · obtain⟨v,o,q,d⟩:=I.cell x c z
     exact⟨v,o,k c o q,d⟩
 · rcases U0 S I.ok e with⟨z,_⟩|z
   · exact I.hok.fresh (Nat.le_trans hC (Nat.le_of_succ_le z))
   · exact I.freeC x c z
 · have e : p = (D, ob) := by
    have:p∈([]:List (Addr×Obj))++[(D,ob)]:=hp;simpa using this
   subst e;refine⟨hob,I.hok.fresh hD,hDC,λz => ?_,hcell⟩;have z:D∈frs X.stack:=z;rcases List.mem_cons.mp (I.stkSub D z)with e|e
   · exact absurd (Nat.lt_of_lt_of_le I.lt (by rw [<-e];exact hD)) (Nat.lt_irrefl _)
   · exact I.nofs hD e
theorem Za8 {C D:Addr} {fp:List Addr} {xe:Value->Shared->Prop} {s:Shared} {H:Hp} {σ':St} {ys:List V} {its:List Value} {n:Nat} {h':Heap} (S:CompSd X scope tn cn js) (I:Inv X pins σ H₂ s₂) (hC:s₂.heap.objs.size<=C) (hD:s₂.heap.objs.size<=D) (hDC:D≠C)
 (hf:∀b∈fp,XV X pins H₂ b) (I':Inv (Xl X scope (tn++cn) C s₂ H₂ fp xe) [(D,{ cls := .type "list",data := .seq its.toArray n })] σ' H s) (hv:Vals ys its) (hz:ys.length<=sizeLine) (hs:Heap.SameBut C s.heap h') :
 Inv X pins σ (upd H D (.lst ys)) { s with heap:=h' }:=by
 have pd:=I'.pin (D,{ cls := .type "list",data := .seq its.toArray n }) (List.mem_append_right _ List.mem_cons_self);have pd1:s.heap.get? D=some { cls := .type "list",data := .seq its.toArray n }:=pd.1;have pd2:H D=none:=pd.2.1;have hD':h'.get? D=some { cls := .type "list",data := .seq its.toArray n }:=(hs.2 D hDC).trans pd1;have hCf:H C=none:=I'.free;have old:∀b o,s₂.heap.get? b=some o->b≠C/\b≠D:=λb o e=>⟨Nat.ne_of_lt (Nat.lt_of_lt_of_le (Heap.lt_size e) hC),Nat.ne_of_lt (Nat.lt_of_lt_of_le (Heap.lt_size e) hD)⟩
 have u:=I'.base;have u:Un (frs X.stack) fp H₂ H s₂.heap s.heap:=u;refine I.call' (s':={ s with heap:=h' }) (ch:=fp) (H':=upd H D (.lst ys)) I'.os ⟨λb o e n hb hx => ?_,λb o e n hb hx => ?_,λb o e n hx => ?_,λb o e hx => ?_,λb xs e => ?_,λb o xs e => ?_,λb ps e => ?_⟩ (λb o e => ?_) I'.bare (λb hb => ?_)
 · exact(hs.2 b (old b o e).1).trans (u.keep b o e n hb hx)
 · obtain⟨sl,q⟩:=u.slot b o e n hb hx
   exact⟨sl,(hs.2 b (old b o e).1).trans q⟩
 · rw [Zx (old b o e).2]
   exact u.free b o e n hx
 · obtain⟨o',q⟩:=u.there b o e hx
   exact⟨o',(hs.2 b (old b o e).1).trans q⟩
 · have q:=u.tups b xs e
   rw [Zx (Yy q pd2)];exact q
 · have q:=u.frzs b o xs e
   rw [Zx (Yy q pd2)];exact q
 · obtain⟨more,q⟩:=u.tbls b ps e
   exact⟨more,by rw [Zx (Yy q pd2)];exact q⟩
 · by_cases hb:b=D
   · subst hb
     rw [Yo]at e;cases e;exact⟨hz,its,n,hv,hD'⟩
   · rw [Zx hb]at e
     refine(I'.hok b o e).stay (λc v hc q=>(hs.2 c ?_).trans q) (λc q=>by rw [Zx (Yy q pd2)];exact q) λc xs q=>by rw [Zx (Yy q pd2)];exact q
     rintro rfl
     rcases hc with rfl|hc
     · rw [hCf]at e;cases e
     · rw [hCf]at hc;cases hc
 · obtain⟨f0,f1,f2,f3,f4,f5⟩:=hf b hb
   exact⟨f3,f1,f4,f5⟩
end
section
variable{X:Cx}{tg iter elt:Expr}{ifs:List Expr}{scope:Scope}{pos:Pos}{wi:TI}{g:TG}{tt:TT}{te:TE}{tn cn:List Str}{js:List Nat}
abbrev QB(X:Cx)(scope:Scope)(N':List Str)(C:Addr)(s₂:Shared)(H₂:Hp)(fp:List Addr):Cx:=Xl X scope N' C s₂ H₂ fp λ_ _=>False
theorem thx{α:Type}{M:Model}{A:Around}{m:Sem α}{Q:α->Shared->Prop}{E E':Value->Shared->Prop}{s:Shared}(hf:∀e s,E e s->E' e s)(h:wpAny M A m Q E s):wpAny M A m Q E' s:=wpAny_mono h (λ_ _ q=>q) hf
theorem Zaz {pins:List (Addr×Obj)} {σ:St} {H₂:Hp} {s₂:Shared} {it:Addr} {fp:List Addr} {tnx:Nat->Heap->Prop} {J:It} {E:Value->Shared->Prop} {RR:Value->Addr->Result->Shared->Prop} {W:Nat->Nat->List V->Hp->Prop} {m0:Nat} {xx:Addr->Value->Shared->Prop}
 (hc:X.calm=true) (S:CompSd X scope tn cn js)
 (hg:∀C,PG (Xl X scope (tn++cn) C s₂ H₂ fp (xx C)) tg g) (ht:∀C,PTs (Xl X scope (tn++cn) C s₂ H₂ fp (xx C)) ifs tt) (he:∀C,s₂.heap.objs.size<=C->PE (Xl X scope (tn++cn) C s₂ H₂ fp (xx C)) elt te)
 (I2:Inv X pins σ H₂ s₂) (T:Turn X.prog X.w X.K tg J fp it tnx) (st2:tnx 0 s₂.heap) (f2:∀b∈fp,XV X pins H₂ b) (w0:W 0 m0 [] H₂)
 (hxx:∀C D e s,s₂.heap.objs.size<=C->xx C e s->notedBy (model X.prog X.w) X.A (Xl X scope (tn++cn) C s₂ H₂ fp (xx C)).env (λe s'=>RR (.ref D) C (.error e) s') e s)
 (turn:∀i m ys H,W i m ys H->(J.stop i H/\∀C D s its n σ',s₂.heap.objs.size<=C->s₂.heap.objs.size<=D->D≠C->Vals ys its->ys.length<=sizeLine ->
   Inv (Xl X scope (tn++cn) C s₂ H₂ fp (xx C)) [(D,{ cls := .type "list",data := .seq its.toArray n })] σ' H s->RR (.ref D) C (.ok .next) s) \/
   (J.go i H/\∀x H',J.yld i H x H'->g x (blk tn.length σ js) H' λσ2 H2=>tt σ2 H2 λb H3=>
     if b=true then te σ2 H3 λy H4=>ys.length<sizeLine/\∃m',m'<m/\W (i+1) m' (ys++[y]) H4 else ∃m',m'<m/\W (i+1) m' ys H3)) :
 wpAny (model X.prog X.w) X.A (newList []) (λacc s₃=>wpAny (model X.prog X.w) X.A (newFunctionEnv scope X.env.globals (XD X.env.cells scope.names []) [] X.env.qual none .none (some X.env)) (λcenv s₄=>
  codeAny (model X.prog X.w) X.A (.compStart (.ListComp elt [⟨tg,iter,ifs,0⟩] scope pos) 0 (.ref it) acc { cenv with scope:=relabel scope X.env }) (RR acc cenv.locals) s₄) E s₃) E s₂:=by
 refine wpAny_newObj_type (ZaT ?_);dsimp only;generalize hH2:s₂.heap.push { cls := .type "list",dict:=none,data := .seq ([]:List Value).toArray }=HH;have hCs:HH.objs.size=s₂.heap.objs.size+1:=by rw [<-hH2,Heap.size_push]
 have hDC:s₂.heap.objs.size≠HH.objs.size:=by rw [hCs];exact Nat.ne_of_lt (Nat.lt_succ_self _)
 have hC:s₂.heap.objs.size<=HH.objs.size:=by rw [hCs];exact Nat.le_succ _
 have hD:s₂.heap.objs.size<=s₂.heap.objs.size:=Nat.le_refl _;have hHe:HH.objs.size+1=(HH.push { cls := .type "dict",data := .dict #[] }).objs.size:=(Heap.size_push ..).symm
 have hcs:∀x c,(UZ X scope HH.objs.size).lookup x=some c->HH.objs.size+1<=c->(pushCells (HH.push { cls := .type "dict",data := .dict #[] }) scope.names).IsCell c none:=λx c hx hc=>by
  unfold UZ at hx;rw [hHe]at hx;refine Zag (lo:=HH.objs.size+1) _ _ _ (λz d hz hd => ?_) hx hc;obtain⟨v,o,q,_⟩:=I2.cell z d (Q7 _ [] (S.clos I2.ok) (λ_ z=>by cases z) hz);exact absurd (Nat.lt_of_lt_of_le (Nat.lt_of_lt_of_le (Heap.lt_size q) hC) (Nat.le_of_succ_le hd)) (Nat.lt_irrefl _)
 have hns₁:(pushCells (HH.push { cls := .type "dict",data := .dict #[] }) scope.names).Ns HH.objs.size (λ_=>none):=(Heap.Ns.new HH (.type "dict")).keeps (pushCells_keeps _ _);generalize hh1:pushCells (HH.push { cls := .type "dict",data := .dict #[] }) scope.names=h₁ at hcs hns₁ ⊢
 have old:∀b o,s₂.heap.get? b=some o->h₁.get? b=some o:=λb o e=>by
  rw [<-hh1];exact pushCells_keeps _ _ b o (Heap.get?_push_of_some _ (hH2▸Heap.get?_push_of_some _ e))
 have hacc:h₁.get? s₂.heap.objs.size=some { cls := .type "list",dict:=none,data := .seq ([]:List Value).toArray }:=by
  rw [<-hh1];exact pushCells_keeps _ _ _ _ (Heap.get?_push_of_some _ (hH2▸Heap.get?_push_size _ rfl))
 have hob:=T.obj _ _ st2
 have I3:Inv (Xl X scope (tn++cn) HH.objs.size s₂ H₂ fp (xx HH.objs.size)) [(s₂.heap.objs.size,{ cls := .type "list",dict:=none,data := .seq ([]:List Value).toArray })] (blk tn.length σ js) H₂ { s₂ with heap:=h₁ }:=
  ZcS (tk:=s₂.toks) S I2 hC hD hDC f2 hob old hns₁ hacc (λv z=>by cases z) hcs
 have st3:tnx 0 h₁:=T.keep _ _ _ st2 λb hb o e=>old b o e
 generalize hX':Xl X scope (tn++cn) HH.objs.size s₂ H₂ fp (xx HH.objs.size)=X' at I3;generalize hs3:({ s₂ with heap:=h₁ }:Shared)=s3 at I3 ⊢;have st3':tnx 0 s3.heap:=by rw [<-hs3];exact st3
 have stat:∀{pins':List (Addr×Obj)}{H':Hp},(∀b∈fp,H' b=none)->(∀p∈pins',p.1=s₂.heap.objs.size)->∀b∈fp,XV X' pins' H' b:=λ{pins' H'} hn hp b hb=>by
  subst hX';obtain⟨o,e,_⟩:=hob b hb;obtain⟨f0,f1,f2',f3,f4,f5⟩:=f2 b hb;refine⟨hn b hb,Nat.ne_of_lt (Nat.lt_of_lt_of_le (Heap.lt_size e) hC),λz=>(List.mem_cons.mp (I2.stkSub b z)).elim f1 f2',.inl hb,λx c h => ?_,λp hpp => ?_⟩
  · rcases U0 S I2.ok h with⟨q,_⟩|q
    · exact Nat.ne_of_gt (Nat.lt_of_lt_of_le (Nat.lt_of_lt_of_le (Heap.lt_size e) hC) (Nat.le_of_succ_le q))
    · exact f4 x c q
  have:p∈pins':=by
   have q:p∈([]:List (Addr×Obj))++pins':=hpp;simpa using q
  rw [hp p this];exact Nat.ne_of_gt (Heap.lt_size e)
 have loop:codeAny (model X.prog X.w) X.A (.compLoop (.ListComp elt [⟨tg,iter,ifs,0⟩] scope pos) 0 (.ref it) (.ref s₂.heap.objs.size) X'.env) (RR (.ref s₂.heap.objs.size) HH.objs.size) s3:=by
  refine Zcq (λk s'=>∃i ys its n H',Inv X' [(s₂.heap.objs.size,{ cls := .type "list",data := .seq its n })] (blk tn.length σ js) H' s'/\Vals ys its.toList/\ys.length<=sizeLine/\tnx i s'.heap/\(∀b∈fp,H' b=none)/\W i k ys H') ?_ m0
   ⟨0,[],#[],0,H₂,I3,.nil,Nat.zero_le _,st3',λb hb=>(f2 b hb).1,w0⟩
  rintro k s4 ⟨i,ys,its,n,H4,I4,hv4,hz4,st4,fr4,w4⟩
  have eP:X'.prog=X.prog:=by rw [<-hX'];rfl
  have eW:X'.w=X.w:=by rw [<-hX'];rfl
  have eK:X'.K=X.K:=by rw [<-hX'];rfl
  have eA:X'.A=X.A:=by rw [<-hX'];rfl
  have eC:X'.calm=true:=by rw [<-hX'];exact hc
  have eE:X'.xe=xx HH.objs.size:=by rw [<-hX'];rfl
  have hf:∀e s,xx HH.objs.size e s->notedBy (model X.prog X.w) X.A X'.env (λe s'=>RR (.ref s₂.heap.objs.size) HH.objs.size (.error e) s') e s:=λe s h=>by rw [<-hX'];exact hxx _ _ e s hC h
  rcases turn i k ys H4 w4 with⟨stop,qn⟩|⟨go,step⟩
  · have z:=T.done X' eP eW eK eC i _ s4 (blk tn.length σ js) H4 (λ_ _=>False) I4 (stat fr4 (λp hp=>by simp at hp;rw [hp])) st4 stop
    rw [eA]at z;refine Zd3 (thn z λr s5 ⟨hr,I5⟩ => ?_);subst hr;subst hX';exact qn _ _ s5 its.toList n _ hC hD hDC hv4 hz4 (by simpa using I5)
  · have z:=T.item X' eP eW eK eC i _ s4 (blk tn.length σ js) H4 (λ_ _=>False) I4 (stat fr4 (λp hp=>by simp at hp;rw [hp])) st4 go
    rw [eA]at z;refine Zd3 (thn z λr s5 ⟨u,hr,h5⟩ => ?_);subst hr;refine Zd3 (thn h5 λ_ s6 ⟨x,H6,I6,r6,y6,st6,fr6⟩ => ?_);have I6':=I6.pinned (stat fr6 (λp hp=>by simp at hp;rw [hp])) (T.obj _ _ st6);have hg':PG X' tg g:=by rw [<-hX'];exact hg _
    have ht':PTs X' ifs tt:=by rw [<-hX'];exact ht _
    have he':PE X' elt te:=by rw [<-hX'];exact he _ hC
    have z7:=hg' _ s6 _ H6 x u _ I6' r6 (step x H6 y6);rw [eP,eW,eA,eE]at z7;refine thx hf (thn z7 λ_ s7 ⟨σ7,H7,I7,q7⟩ => ?_);have z8:=ht' _ s7 σ7 H7 _ I7 q7;rw [eP,eW,eA,eE]at z8;refine thx hf (thn z8 λok s8 ⟨H8,I8,q8⟩ => ?_)
    have key:∀{σ9:St}{H9:Hp}{s9:Shared}{its':Array Value}{n':Nat},Inv X' ([(s₂.heap.objs.size,{ cls := .type "list",data := .seq its' n' })]++VU fp s6.heap) σ9 H9 s9 ->
     Inv X' [(s₂.heap.objs.size,{ cls := .type "list",data := .seq its' n' })] (blk tn.length σ js) H9 s9/\tnx (i+1) s9.heap/\∀b∈fp,H9 b=none:=λ{σ9 H9 s9 its' n'} I9=>by
     refine⟨?_,T.keep _ _ _ st6 λb hb o e=>(I9.pin (b,o) (List.mem_append_right _ (List.mem_append_right _ (J9 hb e)))).1,λb hb => ?_⟩
     · have I9':=I9.unpinned
       subst hX';exact ZcR S I2 f2 I9'
     · obtain⟨o,e,d⟩:=T.obj _ _ st6 b hb
       exact(I9.pin (b,o) (List.mem_append_right _ (List.mem_append_right _ (J9 hb e)))).2.1
    cases ok with
    |false=>
     rw [if_neg Bool.false_ne_true]at q8 ⊢;obtain⟨m',hm,w8⟩:=q8;obtain⟨I9,st9,fr9⟩:=key I8;exact⟨m',hm,i+1,ys,its,n,H8,I9,hv4,hz4,st9,fr9,w8⟩
    |true=>
     rw [if_pos rfl]at q8 ⊢;have z9:=he' _ s8 σ7 H8 _ I8 q8;rw [eP,eW,eA,eE]at z9;refine thx hf (thn z9 λv s9 ⟨y,H9,I9,r9,hl9,m',hm,w9⟩ => ?_);have pd:=I9.pin (s₂.heap.objs.size,{ cls := .type "list",data := .seq its n }) (List.mem_append_right _ (List.mem_append_left _ List.mem_cons_self));have hpl:s9.heap.PlainList s₂.heap.objs.size its:=⟨n,pd.1⟩
     have hlen:its.size=ys.length:=by rw [hv4.length];simp
     refine wpAny_list_append_plain (hsz:=by omega) hpl λh10 hl10 hs10 => ?_
     obtain⟨n10,e10⟩:=hl10;have I10:Inv X' (VU fp s6.heap) σ7 H9 s9:=I9.pins_of λp hp=>I9.pin p (List.mem_append_right _ (List.mem_append_right _ hp))
     have nD:∀b∈fp,b≠s₂.heap.objs.size:=λb hb=>by
      obtain⟨o,e,_⟩:=hob b hb;exact Nat.ne_of_lt (Heap.lt_size e)
     have I11:Inv X' (VU fp s6.heap) σ7 H9 { s9 with heap:=h10 }:=by
      refine I10.turned (t':=s9.toks) (it:=s₂.heap.objs.size) (λb o hb e=>(hs10.2 b hb).trans e) pd.2.1 pd.2.2.1 ?_ ?_ ?_
      · subst hX';exact .inr (Nat.le_refl _)
      · subst hX'
        intro x c h;rcases U0 S I2.ok h with⟨z,_⟩|z
        · exact Nat.ne_of_gt (Nat.lt_of_lt_of_le (Nat.lt_of_lt_of_le (Nat.lt_succ_self _) (Nat.le_of_eq hCs.symm)) (Nat.le_of_succ_le z))
        · obtain⟨v',o',q,_⟩:=I2.cell x c z
          exact Nat.ne_of_lt (Heap.lt_size q)
      · intro p hp
        have hp':p∈VU fp s6.heap:=by
         subst hX';have q:p∈([]:List (Addr×Obj))++VU fp s6.heap:=hp;simpa using q
        exact nD _ (Zb0 hp').1
     have I12:Inv X' ([(s₂.heap.objs.size,{ cls := .type "list",data := .seq (its.push v) n10 })]++VU fp s6.heap) σ7 H9 { s9 with heap:=h10 }:=I11.pins_of λp hp=>by
      rcases List.mem_append.mp hp with q|q
      · have e:p=(s₂.heap.objs.size,{ cls := .type "list",data := .seq (its.push v) n10 }):=by simpa using q
        subst e;exact⟨e10,pd.2.1,pd.2.2.1,pd.2.2.2.1,λv z=>by cases z⟩
      · exact I11.pin p (List.mem_append_right _ q)
     obtain⟨J1,J2,J3⟩:=key I12;refine⟨m',hm,i+1,ys++[y],its.push v,n10,H9,J1,?_,?_,J2,J3,w9⟩
     · have:(its.push v).toList=its.toList++[v]:=by simp
       rw [this];exact hv4.append (.cons r9 .nil)
     · rw [List.length_append,List.length_singleton]
       omega
 have eEnv:({ newEnv scope HH.objs.size X.env.globals (cellsFrom (HH.objs.size+1) scope.names (XD X.env.cells scope.names [])) X.env.qual none .none (some X.env) builtinsNs with scope:=relabel scope X.env }:Env)=X'.env:=by rw [<-hX'];rfl
 have loop2:=loop;rw [<-eEnv]at loop loop2;exact codeAny_compStart_list loop (T.self X.A 0 s3 _ _ st3' loop2)
theorem X0 (hc:X.calm=true) (S:CompSd X scope tn cn js) (hi:PI X tg iter wi)
 (hg:∀C s₂ H₂ fp,PG (QB X scope (tn++cn) C s₂ H₂ fp) tg g) (ht:∀C s₂ H₂ fp,PTs (QB X scope (tn++cn) C s₂ H₂ fp) ifs tt) (he:∀C s₂ H₂ fp,PE (QB X scope (tn++cn) C s₂ H₂ fp) elt te)
 (hs:∀x,foldedSetIterable iter X.env x=pure x:=by intro _;rfl) :
 PE X (.ListComp elt [⟨tg,iter,ifs,0⟩] scope pos) (Q8 wi g tt te tn.length js):=by
 intro pins s σ H Q I h;rw [eval_ListComp];refine wpAny_comprehension_free (use:=none) (cl:=XD X.env.cells scope.names []) rfl hs (Zak (S.clos I.ok)) S.kind S.names (thn (hi pins s σ H _ I h) λv s1 h1=>thn h1 λitv s2 h2 => ?_);obtain⟨it,fp,tnx,J,H2,e,I2,T,st2,f2,W,⟨m0,w0⟩,turn⟩:=h2;subst e;refine Zaz (RR:=λacc C=>compPost (model X.prog X.w) X.A X.xe none (EP X pins σ Q) acc C) (W:=W) (m0:=m0) (xx:=λ_ _ _=>False) hc S (λC=>hg C _ _ _) (λC=>ht C _ _ _) (λC _=>he C _ _ _) I2 T st2 f2 w0 (λ_ _ _ _ _ z=>z.elim) λi m ys H w => ?_
 rcases turn i m ys H w with⟨stop,qn⟩|r
 · refine .inl ⟨stop,λC D s its n σ' hC hD hDC hv hz I' => ?_⟩
   obtain⟨m',hn,_⟩:=id I'.loc;refine⟨m',hn,λh' hs' => ?_⟩;have pd:=I'.pin (D,{ cls := .type "list",data := .seq its.toArray n }) (List.mem_append_right _ List.mem_cons_self);exact⟨.ref D,_,Za8 S I2 hC hD hDC f2 I' hv hz hs',rfl,qn D pd.2.1⟩
 · exact .inr r
end
end L2
namespace PySem
abbrev ZiG(h:Heap)(z TI TO:Addr)(f0 f1:Value):Prop:=
 h.get? z=some { cls := .type "zip",dict:=none,data := .fields #[f0,f1,.bool false,.ref TI,.ref TO],slots := #[] }
section
variable{prog:Program}{w:World}{A:Around}{E:Value->Shared->Prop}{s:Shared}
structure ZipSt(h:Heap)(z TI TO i1 i2 l1 l2:Addr)(i:Nat):Prop where
 zip:∃f0 b,ZiG h z TI TO f0 (.bool b)/\((f0 = .none/\b=false)\/∃T o,f0=rawInt (T:Nat)/\h.get? T=some o)
 TI:IsPair h TI (.ref i1) (.ref i2)
 TO:∃a b,IsPair h TO a b
 it1:h.IsListIter i1 l1 i
 it2:h.IsListIter i2 l2 i
end
end PySem
namespace L2
open PySem PySem.Spec PyProof.Rows
end L2
namespace L2
open PySem PySem.Spec PyProof.Rows
section
variable{X:Cx}
open Classical in
end
end L2
namespace DL
open PySem PySem.Spec L2
section
variable{cA:Kn}{G:Cn}{ow:List Nat}
end
end DL
namespace L2
open PySem PySem.Spec PyProof.Rows
end L2
namespace DL
open PySem PySem.Spec L2
end DL
namespace DL
open PySem PySem.Spec L2
section
variable{cA:Kn}{G:Cn}{ow owN owB owC:List Nat}{H0 H H':Hp}{av:Addr->Prop}{A:Nat->Option Addr}{σ:L2.St}{δ:Env}
end
end DL
namespace DL
open PySem PySem.Spec PyProof.Rows L2
section
variable{prog:Program}{w:World}{A:Around}{E:Value->Shared->Prop}{s:Shared}{l:Addr}{xs:Array (Int×Tok)}
end
section
variable{X:Cx}{K:PySem.W.Frag}{cA:Kn}
end
end DL
namespace DL
open PySem PySem.Spec L2
section
variable{cA:Kn}{G:Cn}{ow:List Nat}
def NewL(H0 H:Hp)(vs:List V):Prop:=∀v∈vs,∃b ws,v = .ref b/\H b=some (.lst ws)/\H0 b=none
theorem NewL.same{H0 H H':Hp}{vs:List V}(h:NewL H0 H vs)(s:Same H H'):NewL H0 H' vs:=λv hv=>let⟨b,ws,e,r,f⟩:=h v hv;⟨b,ws,e,s _ _ r,f⟩
mutual
theorem Rep.kind{av:Addr->Prop}{H H':Hp}:∀{d:D}{v:V},frz d=true->(∀b o,H b=some o->(∀vs,o ≠ .lst vs)->H' b=some o)->Rep cA av H d v->Rep cA av H' d v
 | .non,_,_,_,h=>h
 | .bl _,_,_,_,h=>h
 | .int _,_,_,_,h=>h
 | .str _,_,_,_,h=>h
 | .lst xs,v,hf,k,h=>by cases hf
 | .tup xs,v,hf,k,h=>by
  unfold DL.frz at hf;unfold Rep at h ⊢;obtain⟨a,vs,e,n,r,l⟩:=h;exact⟨a,vs,e,n,k _ _ r (λ_ z=>by cases z),RepL.kind hf k l⟩
 | .obj c ks xs,v,hf,k,h=>by
  unfold DL.frz at hf;unfold Rep at h ⊢;obtain⟨a,dx,vs,e,n,r,z,l⟩:=h;exact⟨a,dx,vs,e,n,k _ _ r (λ_ z=>by cases z),z,RepL.kind hf k l⟩
 | .dct ks xs,v,hf,k,h=>by cases hf
 | .dtt ks xs,v,hf,k,h=>by cases hf
 | .clo c r,v,hf,k,h=>by cases hf
theorem RepL.kind{av:Addr->Prop}{H H':Hp}:∀{xs:List D}{vs:List V},frzL xs=true->(∀b o,H b=some o->(∀vs,o ≠ .lst vs)->H' b=some o)->RepL cA av H xs vs->RepL cA av H' xs vs
 | [],_,_,_,h=>h
 |x::xs,vs,hf,k,h=>by
  unfold DL.frzL at hf;rw [Bool.and_eq_true]at hf;unfold RepL at h ⊢;obtain⟨v,r,e,h1,h2⟩:=h;exact⟨v,r,e,Rep.kind hf.1 k h1,RepL.kind hf.2 k h2⟩
end
structure Turned(H0 H H':Hp)(S:Addr->Prop):Prop where
 else_:∀b,¬S b->H' b=H b
 lst:∀b,S b->∃ws,H' b=some (.lst ws)
 old:∀b,S b->∃ws,H b=some (.lst ws)
 new:∀b,S b->H0 b=none
theorem Turned.kind{H0 H H':Hp}{S:Addr->Prop}(T:Turned H0 H H' S):∀b o,H b=some o->(∀vs,o ≠ .lst vs)->H' b=some o:=λb o e n=>by
 have hs:¬S b:=λz=>by
  obtain⟨ws,w⟩:=T.old b z;rw [w]at e;cases e;exact n ws rfl
 rw [T.else_ b hs];exact e
theorem Turned.same{H0 H H':Hp}{S:Addr->Prop}(T:Turned H0 H H' S)(s:Same H0 H):Same H0 H':=λb o e=>by
 have hs:¬S b:=λz=>by rw [T.new b z]at e;cases e
 rw [T.else_ b hs];exact s b o e
end
end DL
namespace DL
open PySem PySem.Spec L2
section
variable{cA:Kn}{G:Cn}{owN owB owC:List Nat}
theorem Turned.more{H0 H H':Hp}{S S':Addr->Prop}(T:Turned H0 H H' S)(hs:∀b,S b->S' b)(h1:∀b,S' b->∃ws,H b=some (.lst ws))(h2:∀b,S' b->H0 b=none):Turned H0 H H' S':=
 ⟨λb hb=>T.else_ b λz=>hb (hs b z),λb hb=>by
   by_cases z:S b
   · exact T.lst b z
   · rw [T.else_ b z];exact h1 b hb,h1,h2⟩
end
end DL
namespace PySem
open Sem (wp)
open AutoSeq1 (wpAny_loadPart')
section
variable{prog:Program}{w:World}{A:Around}{E:Value->Shared->Prop}{s:Shared}
end
end PySem
namespace L2
open PySem PySem.Spec PyProof.Rows
section
variable{X:Cx}{elts:List Expr}{x1:Nat}{tpos:Pos}
end
end L2
namespace DL
open PySem PySem.Spec L2
section
variable{cA:Kn}{G:Cn}{ow:List Nat}
end
end DL
namespace DL
open PySem PySem.Spec L2
section
variable{cA:Kn}{G:Cn}{ow owB owC:List Nat}
def Vd:D->D->Option D
 | .lst a,.lst b=>Zj0 (.lst a) (.lst b)
 |_,_=>none
theorem U1{ta tb:TE}{a b:Env->Option D}(ha:VE G ow ta .cl a)(hb:VE G ow tb .cl b):VF G ow (tOp (ZgS G.1.K) ta tb) (eOp Vd a b):=λH0 av A σ H δ E d e Q k=>by
 obtain⟨x,y,ex,ey,ed⟩:=ZaU e;unfold Vd at ed
 split at ed
 · rename_i xs ys
   dsimp only [Zj0]at ed
   by_cases hz:xs.length+ys.length<=sizeLine
   · rw [if_pos hz]at ed
     cases ed;refine ha H0 av A σ H δ E _ ex _ λv H1 s1 r1=>hb H0 av A σ H1 δ (E.mono s1) _ ey _ λw H2 s2 r2 => ?_
     obtain⟨a1,vs1,rfl,na,rd,l1⟩:=r1;obtain⟨a2,vs2,rfl,nb,rd2,l2⟩:=r2;refine .inr (.inr ⟨a1,a2,vs1,vs2,rfl,rfl,s2.seq rd,rd2,by rw [<-l1.length,<-l2.length];exact hz,λp hp=>k p _ _ H2 (s1.trans s2) hp ((l1.same s2).append l2) rfl⟩)
   · rw [if_neg hz]at ed;cases ed
 · cases ed
end
end DL
namespace DL
open PySem PySem.Spec L2 PyProof.Rows
section
variable{X:Cx}{cA:Kn}
open Classical in
end
section
variable{prog:Program}{w:World}{A:Around}{E:Value->Shared->Prop}{s:Shared}{l:Addr}{xs:Array (Int×Tok)}
end
section
variable{X:Cx}{K:PySem.W.Frag}{cA:Kn}
end
end DL
namespace DL
open PySem PySem.Spec L2
end DL
namespace L2
open PySem PySem.Spec PyProof.Rows Builtin Builtin.Str
section
variable{X:Cx}
end
end L2
namespace DL
open PySem PySem.Spec L2
variable{cA:Kn}
end DL
namespace DL
open PySem PySem.Spec L2
section
variable{cA:Kn}{G:Cn}{ow owN owB owC:List Nat}
inductive NewD(H0 H:Hp):List D->List V->Prop
 |nil:NewD H0 H [] []
 |cons {xs ds:List D} {vs ws:List V} {b:Addr} (h:H b=some (.lst ws)) (h0:H0 b=none) (hl:ws.length=ds.length) (r:NewD H0 H xs vs):NewD H0 H (.lst ds::xs) (.ref b::vs)
theorem NewD.same{H0 H H':Hp}(s:Same H H'):∀{xs:List D}{vs:List V},NewD H0 H xs vs->NewD H0 H' xs vs
 |_,_,.nil => .nil
 |_,_,.cons h h0 hl r => .cons (s _ _ h) h0 hl (NewD.same s r)
structure Hd(H HE H':Hp)(p0 p1 b0:Addr)(r1:List V):Prop where
 same:Same H H'
 kind:∀b o,HE b=some o->(∀vs,o ≠ .lst vs)->H' b=some o
 l0:∃v ws,H' p0=some (.lst (v::ws))
 l1:∃v ws,H' b0=some (.lst (v::ws))
 lp:H' p1=some (.lst (.ref b0::r1))
theorem Hd.turn{H HE H':Hp}{p0 p1 b0 c:Addr}{r1:List V}(h:Hd H HE H' p0 p1 b0 r1)(hc:c=p0\/c=b0)(h0:H c=none)(hE:∃ws,HE c=some (.lst ws))(hp:c≠p1)(v:V)(ws:List V):Hd H HE (upd H' c (.lst (v::ws))) p0 p1 b0 r1:=by
 refine⟨λb o e => ?_,λb o e n => ?_,?_,?_,?_⟩
 · have:b≠c:=λz=>by rw [z,h0]at e;cases e
   rw [Zx this];exact h.same b o e
 · have : b ≠ c := fun z => by
    obtain⟨ws,w⟩:=hE;rw [z,w]at e;cases e;exact n ws rfl
   rw [Zx this];exact h.kind b o e n
 · by_cases e:p0=c
   · subst e;exact⟨v,ws,Yo⟩
   · rw [Zx e];exact h.l0
 · by_cases e:b0=c
   · subst e;exact⟨v,ws,Yo⟩
   · rw [Zx e];exact h.l1
 · rw [Zx (Ne.symm hp)];exact h.lp
end
end DL
namespace L2
open PySem PySem.Spec PyProof.Rows
section
variable{prog:Program}{w:World}{A:Around}{E:Value->Shared->Prop}{s:Shared}{d it:Addr}{es:Array DictEntry}{ep i:Nat}{o:Obj}
end
section
variable{X:Cx}{tg:Expr}
end
end L2
namespace DL
open PySem PySem.Spec L2
section
variable{G:Cn}{ow ow1 owB owC:List Nat}{i:Nat}{H0 H H':Hp}{av:Addr->Prop}{A A':Nat->Option Addr}{σ σ':L2.St}{δ δ':Env}{a:Addr}
end
end DL
namespace DL
open PySem PySem.Spec L2
section
variable{G:Cn}{ow owB owC ow1:List Nat}
end
end DL
namespace STb
open PySem PySem.SetTable
def lp(m:Nat):Nat->Nat×Nat->Nat×Nat
 |0,x=>x
 |k+1,x=>lp m k (leap m x.1 x.2)
theorem Zl6:∀(m:Nat)(l:List Nat),(∀j,j<m->j∈l)->m<=l.length
 |0,_,_=>Nat.zero_le _
 |m+1,l,h=>by
  have hm:=h m (Nat.lt_succ_self m);have:=Zl6 m (l.erase m) λj hj=>(List.mem_erase_of_ne (Nat.ne_of_lt hj)).mpr (h j (Nat.lt_succ_of_lt hj))
  have e:=List.length_erase_of_mem hm;have:=List.length_pos_of_mem hm;omega
theorem gap{m:Nat}{l:List Nat}(h:l.length<=m):∃j,j<=m/\j∉l:=by
 refine Classical.byContradiction λq => ?_
 have:=Zl6 (m+1) l λj hj=>Classical.byContradiction λz=>q ⟨j,Nat.le_of_lt_succ hj,z⟩
 omega
def it(t:SetTable):Nat->Probe->Probe
 |0,p=>p
 |k+1,p=>it t k (t.advance p)
def rs(t:SetTable)(x:Nat×Nat):Probe:={ j:=x.1,more:=runEnd t.mask x.1-x.1,i:=x.1,perturb:=x.2,dummy:=none }
end STb
namespace STb
open PySem PySem.SetTable
end STb
namespace STb
open PySem PySem.SetTable
section
variable{prog:Program}{w:World}{K:Type} [DecidableEq K]{knd:KeyKind prog w K}{A:Around}{E:Value->Shared->Prop}{s:Shared}
end
end STb
namespace STb
open PySem PySem.SetTable
section
variable{prog:Program}{w:World}{K:Type} [DecidableEq K](knd:KeyKind prog w K)
variable{knd}{A:Around}{E:Value->Shared->Prop}{s:Shared}
end
end STb
namespace STb
open PySem PySem.SetTable
section
variable{prog:Program}{w:World}{K:Type} [DecidableEq K]{knd:KeyKind prog w K}{A:Around}{s:Shared}
end
end STb
namespace L2
open PySem PySem.Spec PyProof.Rows
section
variable{X:Cx}
end
end L2
namespace DL
open PySem PySem.Spec L2
section
variable{cA:Kn}{G:Cn}{ow:List Nat}
end
end DL
namespace PySem
section
variable{prog:Program}{w:World}{A:Around}{E:Value->Shared->Prop}{s:Shared}
end
end PySem
namespace L2
open PySem PySem.Spec PyProof.Rows
section
variable{X:Cx}{tg:Expr}
end
end L2
namespace DL
open PySem PySem.Spec L2
section
variable{cA:Kn}{G:Cn}{ow:List Nat}
end
end DL
namespace L2
open PySem PySem.Spec PyProof.Rows
section
variable{X:Cx}{scope:Scope}{tn cn:List Str}{js:List Nat}{tg iter elt:Expr}{ifs:List Expr}{pos spos pos':Pos}{wi:TI}{g:TG}{tt:TT}{te:TE}
theorem ZcE {i:Nat} {x:Str} (hN:X.N.Nodup) (hi:X.N[i]? = some x) (hx:X.env.scope.names.lookup x=some .local) (hc:X.calm=true) (S:CompSd X scope tn cn js) (hI:PI X tg iter wi)
 (hg:∀C s₂ H₂ fp,PG (QB X scope (tn++cn) C s₂ H₂ fp) tg g) (ht:∀C s₂ H₂ fp,PTs (QB X scope (tn++cn) C s₂ H₂ fp) ifs tt) (he:∀C s₂ H₂ fp,PE (QB X scope (tn++cn) C s₂ H₂ fp) elt te)
 (hsw:swapsWith (.ListComp elt [⟨tg,iter,ifs,0⟩] scope pos) (some (.Name x pos')) spos.line X.env=pure true:=by rfl)
 (hs:∀x,foldedSetIterable iter X.env x=pure x:=by intro _;rfl) :
 PS X (.Assign [.Name x pos'] (.ListComp elt [⟨tg,iter,ifs,0⟩] scope pos) spos) (Qi (Q8 wi g tt te tn.length js) (Uw i)):=by
 intro pins s σ H D I h;rw [exec_Assign_Name_used _ _ _ _ hsw];refine wpAny_bind (wpAny_standAt (wpAny_bind ?_));show wpAny _ X.A (do let _ <-comprehension (.ListComp elt [⟨tg,iter,ifs,0⟩] scope pos) scope X.env _ (newList []) false (eval iter X.env) (some (assign (.Name x pos') X.env))) _ _ s
 refine wpAny_bind (wpAny_mono (wpAny_comprehension_free (use:=some (assign (.Name x pos') X.env)) (Q:=λ_ s'=>SP X pins D .next s') (cl:=XD X.env.cells scope.names []) rfl hs (Zak (S.clos I.ok)) S.kind S.names
  (thn (hI pins s σ H _ I h) λv s1 h1=>thn h1 λitv s2 h2 => ?_)) (λ_ s' hq=>wpAny_pure (wpAny_pure hq)) λ_ _ e=>e)
 obtain⟨it,fp,tnx,J,H2,e,I2,T,st2,f2,W,⟨m0,w0⟩,turn⟩:=h2;subst e;refine Zaz (RR:=λacc C=>compPost (model X.prog X.w) X.A X.xe (some (assign (.Name x pos') X.env)) (λ_ s'=>SP X pins D .next s') acc C) (W:=W) (m0:=m0) (xx:=λ_ _ _=>False) hc S (λC=>hg C _ _ _) (λC=>ht C _ _ _) (λC _=>he C _ _ _) I2 T st2 f2 w0 (λ_ _ _ _ _ z=>z.elim) λi' m ys H w => ?_
 rcases turn i' m ys H w with⟨stop,qn⟩|r
 · refine .inl ⟨stop,λC D' s its n σ' hC hD hDC hv hz I' => ?_⟩
   obtain⟨m',hn,_⟩:=id I'.loc;have pd:=I'.pin (D',{ cls := .type "list",data := .seq its.toArray n }) (List.mem_append_right _ List.mem_cons_self);have hCf:H C=none:=I'.free;have I1:Inv X pins σ (upd H D' (.lst ys)) { s with heap:=s.heap }:=Za8 S I2 hC hD hDC f2 I' hv hz (Heap.SameBut.refl _ _);show wpAny _ X.A (assign (.Name x pos') X.env (.ref D')) _ _ _;have hlC:X.env.locals≠C:=λz=>absurd (z▸I2.lt) (Nat.not_lt.mpr hC)
   have hcC:∀y c,X.env.cells.lookup y=some c->c≠C:=λy c e z=>by
    obtain⟨v',o',q,_⟩:=I2.cell y c e;exact absurd (Heap.lt_size q) (Nat.not_lt.mpr (z▸hC))
   refine wpAny_assign_Name (ZbZ I1 hN hi (.inl hx) (v:=.ref D') rfl (λs3 I3 ⟨a,hsb,ha⟩ => ?_) (.inr hx))
   have hCa:C≠a:=by
    rcases ha with rfl|ha
    · exact Ne.symm hlC
    · exact Ne.symm (hcC _ _ ha)
   refine⟨m',hn.sameBut hsb hCa,λh' hs' => ?_⟩;have hCn:upd H D' (.lst ys) C=none:=by rw [Zx (Ne.symm hDC)];exact hCf
   have I4:Inv X pins (σ.set i (some (.ref D'))) (upd H D' (.lst ys)) { s3 with heap:=h',toks:=s3.toks }:=I3.turned (it:=C) (λb o hb e=>(hs'.2 b hb).trans e) hCn (Ne.symm hlC) (.inr (Nat.le_trans (Nat.le_trans I2.ok.above (Nat.le_of_lt I2.lt)) hC)) (λy c e=>hcC y c e) λp hp z=>by
    have:=(I2.pin p hp).1;exact absurd (Heap.lt_size this) (Nat.not_lt.mpr (z▸hC))
   exact⟨_,_,I4,qn D' pd.2.1⟩
 · exact .inr r
theorem CompSd.mkG{on:List (Str×NameKind)}(hk:scope.kind = .function)(ho:∀y,on.lookup y=some .cell\/on.lookup y=some .free->X.env.kindOf y=some .cell\/X.env.kindOf y=some .free)(h:ZcD on X.N scope.names cn js=true):CompSd X scope tn cn js:=by
 unfold ZcD at h;simp only [Bool.and_eq_true,List.all_eq_true]at h;obtain⟨⟨⟨⟨h1,h2⟩,h3⟩,h4⟩,h5⟩:=h;have hlen:cn.length=js.length:=by simpa using h5
 refine⟨hk,λy hy e=>by simpa [e]using h1 y hy,λy hy e=>by simpa [e]using h2 y hy,λy hy e=>ho _ (by simpa [e]using h3 y hy),λk x e => ?_,hlen⟩;have hkj:k<js.length:=hlen▸(List.getElem?_eq_some_iff.mp e).1;have:=h4 (x,js[k]) (List.mem_of_getElem? (i:=k) (List.getElem?_zip_eq_some.mpr ⟨e,by simp [hkj]⟩));simp only [Bool.and_eq_true,Bool.or_eq_true,beq_iff_eq]at this
 exact⟨js[k],by simp [hkj],this.1.1,ho _ this.1.2,this.2⟩
theorem CompSd.mk1{osc:Scope}{oN:List Str}(hk:scope.kind = .function)(ho:X.env.scope=osc)(hN:X.N=oN)(h:ZcD osc.names oN scope.names cn js=true):CompSd X scope tn cn js:=CompSd.mkG (on:=osc.names) hk (λy e=>by unfold Env.kindOf;rw [ho];exact e) (hN▸h)
end
end L2
namespace L2
open PySem PySem.Spec
theorem fsm {N P:List Str} {sc:Scope} (a:sc.kind = .function:=by rfl) (b:sc.isCoroutine=false:=by rfl) (c:sc.isGenerator=false:=by rfl) (d:N.Nodup:=by decide +kernel) (e:N.take P.length=P:=by rfl)
 (f:∀x∈P,sc.names.lookup x=some .local\/sc.names.lookup x=some .cell:=by decide +kernel) (g:∀y∈sc.names,y.2 ≠ .free:=by decide +kernel):FnScope N P sc:=⟨a,b,c,d,e,f,g⟩
structure Df(K:PySem.W.Frag)(x q:Str)(st:Stmt)(a:Addr)(fd:FuncData)(ps:List Str):Prop where
 f:FunX K x q st a fd
 b:Binds K fd ps []
 k:keepIn K (.ref a)=true
structure Dg(K:PySem.W.Frag)(mg:Str->Option Value)(x:Str)(st:Stmt)(a:Addr)(fd:FuncData)(ps:List Str):Prop extends Df K x x st a fd ps where
 g:mg x=some (.ref a)
structure Fg(K:PySem.W.Frag)(x:Str)(st:Stmt)(f:Addr)(fd:FuncData):Prop where
 a:nsIn K mainGlobals x=some (some (.ref f))
 l:Fun K x x st f fd
variable{K:PySem.W.Frag}{h:Heap}{mg:Str->Option Value}{x q:Str}{st:Stmt}{f:Addr}{fd:FuncData}{ps:List Str}
theorem Fun.df (F:Fun K x q st f fd) (b:∀(kV doc pm:Value)(an:Option Addr)(cdv ct:Value)(us:List Value),us.length=ps.length->bindArgs (fnOf x q (defArgs st) (defBody st) (defScope st) .none kV doc pm an cdv ct) ⟨us,[]⟩=pure (ps.zip us):=by
 intro _ _ _ _ _ _ us hl;rcases us with _|⟨_,_|⟨_,_|⟨_,_|⟨_,_|⟨_,_|⟨_,_|⟨_,_⟩⟩⟩⟩⟩⟩⟩<;>first|(exfalso;simp at hl;done)|rfl):Df K x q st f fd ps:=⟨F.x,F.binds b,F.kp⟩
theorem Fg.dg(F:Fg K x st f fd)(X:K.In h)(G:h.Ns mainGlobals mg)(D:Df K x x st f fd ps):Dg K mg x st f fd ps:=⟨D,mg_of X G F.a⟩
theorem Fg.of {oc:Value} {od an:Option Addr} {osl:Array (Option Value)} {kV doc pm cdv ct:Value} (a:nsIn K mainGlobals x=some (some (.ref f))) (l:K.lookup f=some ⟨oc,od,.func (fnOf x x (defArgs st) (defBody st) (defScope st) .none kV doc pm an cdv ct),osl⟩)
 (c:codeIn K cdv x=true) (k:keepIn K (.ref f)=true):Fg K x st f (fnOf x x (defArgs st) (defBody st) (defScope st) .none kV doc pm an cdv ct):=⟨a,fun_mk l c k⟩
end L2
namespace L2
open PySem PySem.Spec PySem.W PyProof.Rows
def ZhZ(K:PySem.W.Frag)(G:Addr)(tb:XK->TS)(ts:TS):TS:=λD σ H=>∃E:XK,tb E D σ H/\∀cls H',E cls none H'->∃C,cls = .ref C/\ExCls K C/\exmOne K (.ref C) (.ref G)=some true /\
 ∀ea,H' ea=none->ts D σ (upd H' ea (.ext (UY ea (.ref C))))
section
variable{X:Cx}{G:Addr}{g:Str}{body suite:List Stmt}{b₀:Stmt}{gp hpos pos:Pos}{tb:XK->TS}{ts:TS}
theorem Zev (hstk:X.stack=X.env::X.outer/\X.env.frame=some X.env.locals) (hg:Gl X g) (hm:X.mg g=some (.ref G))
 (hb:∀E,PSx X E body (tb E)) (hs:∀ea,PSs (X.suite ea) (b₀::suite) ts) (hdb:(g == ("__debug__" : Str))=false:=by decide) :
 PS X (.Try body [.ExceptHandler (some (.Name g gp)) none (b₀::suite) hpos] [] [] pos) (ZhZ X.K G tb ts):=by
 intro pins s σ H D I ⟨E,h⟩;refine wpAny_Try_except ?_;refine thn (hb E pins s σ H D _ I h.1 ?_) λfl s1 q => ?_
 · intro H2 s2 ev s' I2 ⟨ea,cls,a0,B,H',e,hos,hbare,hfl,hKB,hok,hsame,hfree,hup,hE⟩
   subst e;obtain⟨C,rfl,T,hx,hts⟩:=h.2 cls H' hE;have hfr:X.A.frames=some (X.env::X.outer):=by rw [<-hstk.1];exact I.ok.frames
   have hfl':Heap.FlyingW B (X.env::X.outer) ea (.ref C) a0 s'.heap:=hstk.1▸hfl;have hea:B.get? ea=none:=hfl.2.1
   have hnf:ea∉frs X.stack:=λz=>by
    obtain⟨_,o,h1,h2⟩:=hfl.2.2.1.mem z;obtain⟨oe,vs,h3,_,h4,_⟩:=hfl.first;rw [h1]at h3;cases h3;exact h2 vs h4
   have frnf:∀b o,s2.heap.get? b=some o->b∈frs X.stack->∀vs,o.data ≠ .fields vs:=λb o q z=>by
    obtain⟨_,o',h1,h2⟩:=I2.stack.mem z;have:o'=o:=Option.some.inj (h1.symm.trans q);exact this▸h2
   have at_:∀{hp:Heap}{g':Array GenState}{d':Drawn}{t':Nat},Heap.FlyingW B (X.env::X.outer) ea (.ref C) a0 hp->s'.heap.UpToSlots hp->AllBare g'->Inv X pins σ (upd H' ea (.ext (UY ea (.ref C)))) ⟨hp,g',d',t',s'.os⟩/\H' ea=none:=λ{hp g' d' t'} f u hg'=>by
    refine ZdP (s':=⟨hp,g',d',t',s'.os⟩) I2 hos hg' f.1 hea hKB hok hsame hfree (λb o q z => ?_) f.there hnf;obtain⟨sl,q1⟩:=hup b o q z;obtain⟨sl2,q2⟩:=u b _ q1 (show ∀vs,({ o with slots:=sl }:Obj).data ≠ .fields vs from frnf b o q z);exact⟨sl2,q2⟩
   refine wpAny_looks_onW hfr hstk.2 hfl' λh4 hh4 u4 => ?_
   refine wpAny_landsW hh4 λh5 hf5 u5 => ?_
   obtain⟨I5,hn⟩:=at_ (hp:=h5) (g':=s'.gens) (d':=s'.drawn) (t':=s'.toks) hf5 (u4.trans u5) hbare;refine wpAny_handleBy_cons (codeAny_handlers_test (Ud (I5.suite ea) hg hm ?_ hdb)) (by intro q;cases q);refine(exm_one (M:=model X.prog X.w) (K:=X.K) I5.kIn (ZiD (hf5.there)) hx).here ?_;show codeAny (model X.prog X.w) (X.A.mark (some (.ref ea))) _ _ _;refine codeAny_handlers_suite (lands_againW hf5 λh6 hf6 u6 => ?_)
   obtain⟨I6,_⟩:=at_ (hp:=h6) (g':=s'.gens) (d':=s'.drawn) (t':=s'.toks) hf6 ((u4.trans u5).trans u6) hbare;refine wpAny_mono (hs ea pins _ _ _ D (I6.suite ea) (hts ea hn)) (λfl s8 q8 => ?_) λ_ _ z=>z.elim
   cases fl with
   |next=>
    obtain⟨σ',H8,I8,q⟩:=q8;exact⟨_,H8,I8.unsuite I.ok,q⟩
   |brk=>
    obtain⟨σ',H8,I8,q⟩:=q8;exact⟨_,H8,I8.unsuite I.ok,q⟩
   |cont=>
    obtain⟨σ',H8,I8,q⟩:=q8;exact⟨_,H8,I8.unsuite I.ok,q⟩
   |ret u=>
    obtain⟨v,σ',H8,I8,r,q⟩:=q8;exact⟨v,_,H8,I8.unsuite I.ok,r,q⟩
 · cases fl with
   |next=>exact wpAny_execs_nil q
   |ret v=>exact q
   |brk=>exact q
   |cont=>exact q
end
end L2
namespace DL
open PySem PySem.Spec L2
section
variable{cA:Kn}{G:Cn}{ow owB owC:List Nat}
def QC(φb:Env->Option Out)(χb:Env->Option String)(cl:List String)(ψ:Env->Option Out)(δ:Env):Option Out:=match χb δ with
 |some c=>if cl.contains c=true then ψ δ else none
 |none=>φb δ
theorem Zew {K:PySem.W.Frag} {Gd:Addr} {tb:XK->TS} {tr:TS} {φb ψ:Env->Option Out} {χb:Env->Option String} (cl:List String)
 (hT:∀c∈cl,ExCls K (G.1.c c)/\PySem.W.exmOne K (.ref (G.1.c c)) (.ref Gd)=some true)
 (hb:∀E,VS G ow ow owB owC (tb E) φb) (hx:∀E,VXs G ow E (tb E) χb) (hv:VS G ow ow owB owC tr ψ):VS G ow ow owB owC (ZhZ K Gd tb tr) (QC φb χb cl ψ):=λH0 av A σ H δ R o e De k=>by
 unfold QC at e;cases hc:χb δ with
 |none=>
  rw [hc]at e;exact⟨λ_ _ _=>False,hb _ H0 av A σ H δ R o e De k,λ_ _ z=>z.elim⟩
 |some c=>
  rw [hc]at e;dsimp only at e
  by_cases hz:cl.contains c=true
  · rw [if_pos hz]at e
    obtain⟨hT1,hT2⟩:=hT c (by simpa using hz);refine⟨λcls d H'=>cls = .ref (G.1.c c)/\Same H H',hx _ H0 av A σ H δ R c hc (λH' s=>⟨rfl,s⟩) De,λcls H' ⟨e1,s1⟩=>⟨G.1.c c,e1,hT1,hT2,λea hea => ?_⟩⟩;exact hv H0 av A σ _ δ ((R.mono s1).mono (Xa hea)) o e De k
  · rw [if_neg hz]at e;cases e
end
end DL
namespace DL
open PySem PySem.Spec L2
section
variable{cA:Kn}{G:Cn}{ow owB owC:List Nat}
def Jn(a:Env->Option D)(lo hi:Env->Option (Option Int))(δ:Env):Option D:=match a δ with
 |some (.lst _)=>eSl a lo hi δ
 |_=>none
theorem ZiH{ta:TE}{tl th:TO}{q:Ql}{a:Env->Option D}{lo hi:Env->Option (Option Int)}(hq:q = .cl\/q = .tp)(ha:VE G ow ta q a)(hl:VO G ow tl lo)(hh:VO G ow th hi):VF G ow (tSl (Zi1 G.1.K) ta tl th) (Jn a lo hi):=λH0 av A σ H δ E d e Q k=>by
 unfold Jn at e
 split at e
 · rename_i xs hx
   obtain⟨x,l,u,ex,el,eu,ed⟩:=Zdg e;rw [hx]at ex;cases ex;refine ha H0 av A σ H δ E _ hx _ λv H1 s1 r1=>hl H0 av A σ H1 δ (E.mono s1) l el _ λH2 s2=>hh H0 av A σ H2 δ ((E.mono s1).mono s2) u eu _ λH3 s3 => ?_
   have s13:=s2.trans s3
   have r3:RepT G.1 av (AV av A) H3 (.lst xs) v:=by
    have:=(r1.same s13).tp;rcases hq with rfl|rfl<;>exact this
   cases ed;obtain⟨p,vs,rfl,_,rd,ll⟩:=r3;refine .inr (.inl ⟨p,vs,rfl,rd,λp' hp => ?_⟩);rw [ZcC];exact k p' _ _ H3 (s1.trans s13) hp (ll.cutL l u) rfl
 · cases e
end
end DL
namespace L2
open PySem PySem.Spec PySem.W PyProof.Rows
section
variable{X:Cx}
def rInsert:V->List V->Hp->VK->Prop:=λx vs H Q=>∃l xs y,∃j:Int,x = .ref l/\vs=[.int j,y]/\H l=some (.lst xs)/\0<=j/\j<=xs.length/\xs.length<sizeLine/\Q .non (upd H l (.lst (xs.take j.toNat++y::xs.drop j.toNat)))
theorem Zfa:MtM X "list.insert" rInsert:=by
 intro pins s σ H x vs v us Q I rx rv h;obtain⟨l,xs,y,j,rfl,rfl,hH,hj,hk,hz,q⟩:=h;cases rx;obtain⟨uk,u,rfl,rk,ru⟩:=rv.two;obtain⟨tk,rfl⟩:=rk;obtain⟨z,its,n,r,hl,e⟩:=I.lstM hH
 have hfit:¬(!Builtin.List.listFitsIndex j)=true:=by
  have hs:sizeLine=16777216:=sizeLine_eq;rw [hs]at hz;unfold Builtin.List.listFitsIndex;simp;omega
 have M:=PySem.AutoSeq1.list_insert_list_int_val_1 l its.toArray n j tk u hfit (by rw [List.size_toArray,<-hl];exact z);refine call_meets F.slot_list_insert ⟨_,e,rfl⟩ F.entry_list_insert (F.args_list_insert_3 _ _ _) M ⟨e,?_⟩;refine⟨.non,_,I.lset (its':=its.take j.toNat++u::its.drop j.toNat) hH e ?_ ((r.take j.toNat).append (.cons ru (r.drop j.toNat))) ?_,rfl,q⟩
 · have h1:¬(j<0):=by omega
   have h2:min j.toNat its.toArray.size=j.toNat:=by rw [List.size_toArray];omega
   simp only [if_neg h1,h2];apply Array.ext';simp;exact List.take_of_length_le (by rw [List.length_drop];exact Nat.le_refl _)
 · rw [List.length_append,List.length_cons,List.length_take,List.length_drop]
   omega
end
end L2
namespace DL
open PySem PySem.Spec L2
section
variable{cA:Kn}{G:Cn}{ow owB owC:List Nat}
def Jo(i:Nat)(κ ε:Env->Option D)(δ:Env):Option Out:=match Za i δ,κ δ,ε δ with
 |some (.lst xs),some (.int k),some d=>if 0<=k/\k<=xs.length/\xs.length<sizeLine then some (.nx (δ.set i (some (.lst (xs.take k.toNat++d::xs.drop k.toNat)))))else none
 |_,_,_=>none
theorem ZiI{K:PySem.W.Frag}{tk te:TE}{κ ε:Env->Option D}(i:Nat)(hi:ow.contains i=true)(hk:VE G ow tk .cl κ)(h:VE G ow te .cl ε):VS G ow ow owB owC (UI (tBM K "list" rInsert (Uu i) (Vj tk (Vj te tNil)))) (Jo i κ ε):=λH0 av A σ H δ E o e De k=>by
 unfold Jo at e
 split at e
 · rename_i xs j d hv hj hd
   by_cases hz:0<=j/\j<=xs.length/\xs.length<sizeLine
   · rw [if_pos hz]at e
     cases e;have hi':i∈ow:=by simpa using hi
     cases hA:A i with
     |none=>exact absurd hA (E.dom' i hi')
     |some a=>
      obtain⟨v,h1,_,h3⟩:=E.var i _ (Vk hv);obtain⟨rfl,vs,q1,q2⟩:=h3 a hA;refine⟨_,h1,.inl ⟨rfl,vs,SqL.of q1⟩,hk H0 av A σ H δ E _ hj _ λvj H1 s1 r1=>h H0 av A σ H1 δ (E.mono s1) d hd _ λv H' s2 r => ?_⟩;have s:=s1.trans s2;have E':=E.mono s;have q1':=s _ _ q1;obtain rfl:vj = .int j:=r1.any;have ll:=q2.length;refine⟨a,vs,v,j,rfl,rfl,q1',hz.1,by omega,by omega,k A σ _ (E'.put hA (Vk hv) (λb o hb e=>by rw [Zx hb];exact e) (by rw [Yo];exact λz=>by cases z) ⟨_,Yo,?_⟩)⟩
      have ex:∀b o,¬AV av A b->H' b=some o->upd H' a (.lst (vs.take j.toNat++v::vs.drop j.toNat)) b=some o:=λb o n e=>by
       rw [Zx λz=>n (.inr ⟨i,by rw [z];exact hA⟩)];exact e
      exact(((q2.same s).take _).append (.cons (RepT.r r) ((q2.same s).drop _))).ext ex
   · rw [if_neg hz]at e;cases e
 · cases e
end
end DL
namespace L2
open PySem PySem.Spec PyProof.Rows
structure CloScope(N ps fr:List Str)(sc:Scope):Prop where
 kind:sc.kind = .function
 co:sc.isCoroutine=false
 gen:sc.isGenerator=false
 nd:N.Nodup
 pre:N.take (ps++fr).length=ps++fr
 par:∀x∈ps,sc.names.lookup x=some .local
 frk:∀x∈fr,sc.names.lookup x=some .free
 all:∀y∈sc.names,y.2 ≠ .cell/\(y.2 = .free->y.1∈fr)
structure Caps(h:Heap)(cl:List (Str×Addr))(fr:List Str)(vc:List V):Prop where
 inj:∀x y c,cl.lookup x=some c->cl.lookup y=some c->x=y
 cell:∀x c,cl.lookup x=some c->∃v,h.IsCell c v
 get:∀(i:Nat)(x:Str),fr[i]? = some x->∃c u v,cl.lookup x=some c/\vc[i]? = some v/\RelV v u/\h.IsCell c (some u)
 len:vc.length=fr.length
def cxC(P:Program)(w:World)(K:PySem.W.Frag)(mg:Str->Option Value)(base:Heap)(N:List Str)(qual:Str)(scope:Scope)(f:Addr)(cd:Value)(cl:List (Str×Addr))(A:Around)(outer:List Env)(s:Shared)(H:Hp):Cx where
 prog:=P
 w:=w
 K:=K
 mg:=mg
 base:=base
 A:=A.deeper (PySem.W.envX qual scope s.heap.objs.size f cd cl)
 N:=N
 s₀:=s
 H₀:=H
 env:=PySem.W.envX qual scope s.heap.objs.size f cd cl
 outer:=outer
 stack:=PySem.W.envX qual scope s.heap.objs.size f cd cl::outer
 ex:=[]
 calm:=true
 fn:=λ_=>false
 pn:=[]
 xe:=λ_ _=>False
theorem Zby{x:Str}{v:Value}:∀{l:List (Str×Value)},(l.map (·.1)).Nodup->(x,v)∈l->l.lookup x=some v
 | [],_,h=>by cases h
 |(y,w)::l,nd,h=>by
  rw [List.map_cons,List.nodup_cons]at nd;rcases List.mem_cons.mp h with e|h
  · cases e
    simp [List.lookup_cons]
  · have hne:x≠y:=λe=>nd.1 (List.mem_map.mpr ⟨(x,v),h,e⟩)
    have hb:(x == y)=false:=beq_eq_false_iff_ne.mpr hne;rw [List.lookup_cons,hb];exact Zby nd.2 h
theorem Zex:∀(ps:List Str)(us:List Value),((ps.zip us).map (·.1)).Sublist ps
 | [],_ => .slnil
 |_::_,[]=>List.nil_sublist _
 |x::ps,u::us=>(Zex ps us).cons_cons x
theorem ZiJ{ps:List Str}{us:List Value}{i:Nat}{x:Str}{u:Value}(nd:ps.Nodup)(h1:ps[i]? = some x)(h2:us[i]? = some u):(ps.zip us).reverse.lookup x=some u:=by
 refine Zby ?_ (List.mem_reverse.mpr (List.mem_of_getElem? (i:=i) ?_))
 · rw [List.map_reverse]
   refine List.pairwise_reverse.mpr (List.Pairwise.imp Ne.symm ?_);exact nd.sublist (Zex ps us)
 · rw [List.getElem?_zip_eq_some]
   exact⟨h1,h2⟩
theorem Zhm {P:Program} {w:World} {K:PySem.W.Frag} {mg:Str->Option Value} {base:Heap} {N ps fr:List Str} {qual:Str} {scope:Scope} {f:Addr} {cd:Value} {cl:List (Str×Addr)} {A:Around} {outer:List Env} {s:Shared} {H:Hp} {us:List Value} {vs vc:List V} {h₁:Heap} {tk:Nat}
 (S:CloScope N ps fr scope) (C:Caps base cl fr vc) (hd:A.handled=none) (e0:Env0 P w K mg base A outer s H) (hl:vs.length=ps.length) (r:Vals vs us)
 (hns:h₁.Ns s.heap.objs.size (λx=>(ps.zip us).reverse.lookup x)) (hk:∀b o,s.heap.get? b=some o->h₁.get? b=some o) :
 Inv (cxC P w K mg base N qual scope f cd cl A outer s H) [] (start N (vs++vc)) H { s with heap:=h₁,toks:=tk }:=by
 have noA:∀b:Addr,b∉(cxC P w K mg base N qual scope f cd cl A outer s H).ex:=λb z=>absurd (show b∈([]:List Addr)from z) (by simp)
 have hpl:(ps++fr).length<=N.length:=by have:=congrArg List.length S.pre;rw [List.length_take]at this;omega
 have hvl:(vs++vc).length=(ps++fr).length:=by rw [List.length_append,List.length_append,hl,C.len]
 have cb:∀x c v,cl.lookup x=some c->base.IsCell c v->s.heap.IsCell c v/\H c=none:=λx c v e ⟨o,ho,hd⟩=>⟨⟨o,(e0.bs c o ho).1,hd⟩,(e0.bs c o ho).2⟩
 have ck:∀c v,s.heap.IsCell c v->h₁.IsCell c v:=λc v ⟨o,ho,hd⟩=>⟨o,hk _ _ ho,hd⟩
 refine⟨⟨e0.mod,S.kind,rfl,rfl,Nat.le_refl _,C.inj,λy hy => ?_,λy c h=>(by cases(show false=true from h)),λ_=>hd,Around.frames_deeper e0.frames,.inr ⟨rfl,rfl⟩,λb z=>absurd z (noA b),e0.bs,e0.bsz,λb _ _=>noA b,λb z=>absurd z (noA b),e0.funs,e0.frf,e0.tb⟩,
  rfl,e0.bare,Un.kept hk,⟨_,hns,λi y v h1 h2 h3 => ?_⟩,λy c h => ?_,e0.hok.fresh (Nat.le_refl _),λy c h => ?_,λp hp=>absurd (show p∈([]:List (Addr×Obj))from hp) (by simp),e0.hok.kept hk,?_,λq hq=>absurd (show q∈([]:List (Addr×Obj×Str))from hq) (by simp)⟩
 · have hy:scope.names.lookup y=some .cell\/scope.names.lookup y=some .free:=hy
   rcases hy with hy|hy
   · exact absurd rfl (S.all _ (PySem.mem_of_lookup hy)).1
   · obtain⟨i,hi⟩:=List.mem_iff_getElem?.mp ((S.all _ (PySem.mem_of_lookup hy)).2 rfl)
     obtain⟨c,_,_,e,_⟩:=C.get i y hi;exact⟨c,e⟩
 · have h1:N[i]? = some y:=h1
   have hi:i<(vs++vc).length:=by
    unfold start at h2
    by_cases hi:i<(vs++vc).length
    · exact hi
    · rw [List.getElem?_append_right (by simpa using hi)]at h2
      rw [List.getElem?_replicate]at h2
      split at h2<;>cases h2
   have ha:(vs++vc)[i]? = some v:=by
    unfold start at h2;rw [List.getElem?_append_left (by simpa using hi),List.getElem?_map]at h2;cases e:(vs++vc)[i]? with
    |none=>rw [e]at h2;cases h2
    |some a=>rw [e]at h2;cases h2;rfl
   have hp:(ps++fr)[i]? = some y:=by
    rw [<-S.pre,List.getElem?_take_of_lt (by omega)];exact h1
   have ndP:(ps++fr).Nodup:=by rw [<-S.pre];exact S.nd.sublist (List.take_sublist _ _)
   by_cases hv:i<vs.length
   · rw [List.getElem?_append_left hv]at ha
     rw [List.getElem?_append_left (by omega)]at hp;obtain⟨u,hu,rv⟩:=r.get ha;exact⟨u,rv,.inl ⟨S.par y (List.mem_of_getElem? hp),ZiJ (ndP.sublist (List.sublist_append_left _ _)) hp hu⟩⟩
   · rw [List.getElem?_append_right (by omega)]at ha
     rw [List.getElem?_append_right (by omega),<-hl]at hp;obtain⟨c,u,v',e1,e2,e3,e4⟩:=C.get _ y hp;rw [ha]at e2;cases e2;exact⟨u,e3,.inr ⟨.inr (S.frk y (List.mem_of_getElem? hp)),c,e1,ck _ _ (cb y c _ e1 e4).1⟩⟩
 · obtain⟨v,hv⟩:=C.cell y c h
   exact⟨v,ck _ _ (cb y c v h hv).1⟩
 · obtain⟨v,hv⟩:=C.cell y c h
   exact(cb y c v h hv).2
 · unfold start
   show _=N.length;rw [List.length_append,List.length_map,List.length_replicate];omega
section
variable{X:Cx}{pins:List (Addr×Obj)}{σ:St}{H:Hp}{s:Shared}
def Uk(h:Heap)(H:Hp)(fs:List Addr):Heap:=PySem.W.hideAll h (trk h H++fs)
theorem mem_trk{h:Heap}{H:Hp}{b:Addr}:b∈trk h H ↔ b<h.objs.size/\(H b).isSome=true:=by
 unfold trk;rw [List.mem_filter,List.mem_range]
theorem ZbO{h:Heap}{H:Hp}{fs:List Addr}{b:Addr}{o:Obj}(e:h.get? b=some o)(n:H b=none)(f:b∉fs):(Uk h H fs).get? b=some o:=by
 refine PySem.W.hideAll_get _ e λz => ?_
 rcases List.mem_append.mp z with z|z
 · have:=(mem_trk.mp z).2
   rw [n]at this;cases this
 · exact f z
theorem ZbI{h:Heap}{H:Hp}{fs:List Addr}{b:Addr}{o:Obj}(e:(Uk h H fs).get? b=some o):h.get? b=some o/\H b=none/\b∉fs:=by
 have e1:=PySem.W.of_hideAll _ e
 have hn:b∉trk h H++fs:=λz=>by
  have:=PySem.W.hideAll_none (h:=h) _ z;unfold Uk at e;rw [e]at this;cases this
 refine⟨e1,?_,λz=>hn (List.mem_append_right _ z)⟩;cases q:H b with
 |none=>rfl
 |some u=>exact absurd (List.mem_append_left _ (mem_trk.mpr ⟨Heap.lt_size e1,by rw [q];rfl⟩)) hn
theorem Inv.base_wide(I:Inv X pins σ H s):∀b o,X.base.get? b=some o->(Uk s.heap H (frs X.stack)).get? b=some o:=λb o e=>by
 obtain⟨h1,h2⟩:=I.bs b o e;refine ZbO h1 h2 λz => ?_
 rcases List.mem_cons.mp (I.stkSub b z)with q|q
 · have:=Heap.lt_size e
   rw [q]at this;exact absurd (Nat.lt_of_lt_of_le this (Nat.le_trans I.ok.bsz I.ok.above)) (Nat.lt_irrefl _)
 · exact I.ok.nofr e q
theorem Zcd{h base b2:Heap}:∀{l:List Env},(∀L∈frs l,b2.get? L=none)->h.FunFrames base l->h.FunFrames b2 l
 | [],_,_=>trivial
 |env::r,hn,hl=>by
  obtain⟨hk,⟨L,o,hf,_,ho,hd⟩,hr⟩:=hl;have hL:L∈frs (env::r):=by unfold frs;rw [List.filterMap_cons,hf];exact List.mem_cons_self
  refine⟨hk,⟨L,o,hf,hn L hL,ho,hd⟩,Zcd (λb hb=>hn b ?_) hr⟩;unfold frs at hb ⊢;rw [List.filterMap_cons,hf];exact List.mem_cons_of_mem _ hb
theorem Mod.keeps{K:PySem.W.Frag}{mg:Str->Option Value}{b1 b2:Heap}(M:Mod K mg b1)(k:∀b o,b1.get? b=some o->b2.get? b=some o):Mod K mg b2:=
 ⟨M.kin.keeps k,M.glob.keeps k,let⟨mb,h1,h2⟩:=M.blt;⟨mb,h1.keeps k,h2⟩,M.nolimit.keeps k⟩
theorem ZaG{pos:Pos}{a b:Int}{c cv:Value}:∀(l:List Value),TriplesOk l->codeAmong pos (l++[rawInt a,rawInt b,c])=some cv->codeAmong pos l=some cv\/cv=c
 | [],_,h=>by
  have h:(if(a == (pos.line:Int)&&b == (pos.col:Int))=true then some c else none)=some cv:=h
  split at h
  · cases h;exact .inr rfl
  · cases h
 | .int x tx :: .int y ty::z::r,ht,h=>by
  have h:(if(x == (pos.line:Int)&&y == (pos.col:Int))=true then some z else codeAmong pos (r++[rawInt a,rawInt b,c]))=some cv:=h;show(if(x == (pos.line:Int)&&y == (pos.col:Int))=true then some z else codeAmong pos r)=some cv\/_
  by_cases hz:(x == (pos.line:Int)&&y == (pos.col:Int))=true
  · rw [if_pos hz]at h ⊢
    exact .inl h
  · rw [if_neg hz]at h ⊢
    exact ZaG r ht h
structure NestIn(mg:Str->Option Value)(base:Heap)(c P:Addr):Prop where
 hd:PySem.W.CodeHd base c P
 bm:∃bm ob,mg "__builtins__" = some (.ref bm)/\bm≠builtinsNs/\base.get? bm=some ob/\ob.cls = .type "module" /\ ob.dict=some builtinsNs/\ob.data = .plain
structure NestK(K:PySem.W.Frag)(mg:Str->Option Value)(c P:Addr):Prop where
 hd:∃o vs file tf flags tg inF text tt,K.lookup c=some o/\o.cls = .type "code" /\ o.data = .fields vs/\vs[11]? = some (.ref P)/\vs.getD 11 .none = .ref P/\vs.getD 18 .none = .str file tf/\vs.getD 7 .none = .int flags tg/\vs.getD 9 .none = .bool inF/\vs.getD 10 .none = .int text tt/\c≠P
 bm:∃bm ob,mg "__builtins__" = some (.ref bm)/\bm≠builtinsNs/\K.lookup bm=some ob/\ob.cls = .type "module" /\ ob.dict=some builtinsNs/\ob.data = .plain
theorem NestK.at{K:PySem.W.Frag}{mg:Str->Option Value}{c P:Addr}{base:Heap}(N:NestK K mg c P)(M:K.In base):NestIn mg base c P:=
 ⟨let⟨o,vs,file,tf,flags,tg,inF,text,tt,e,r⟩:=N.hd;⟨o,vs,file,tf,flags,tg,inF,text,tt,M _ _ e,r⟩,let⟨bm,ob,h1,h2,h3,r⟩:=N.bm;⟨bm,ob,h1,h2,M _ _ h3,r⟩⟩
theorem ZfU {c' P:Addr} {qual:Str} {h':Heap} {fo oc:Obj} {tk:Nat} {pos:Pos} {ps qs:Array Value} (I:Inv X pins σ H s) (hP:H P=some (.tbl ps)) (hps:ps[0]? = some (.str qual 0)) (hq:s.heap.get? P=some (PySem.W.tabObj qs)) (ht:TriplesOk qs.toList)
 (hrow:∀pos cv,codeAmong pos qs.toList=some cv->∃c oc q u,cv = .ref c/\H c=some (.frz oc (.cod q))/\ps[0]? = some (.str q u))
 (hx:Heap.ExtBut P s.heap h') (hge:s.heap.objs.size<=c') (hoc:h'.get? c'=some oc) (hrec:h'.CodeRec (.ref c') qual) (htb:h'.get? P=some (PySem.W.tabObj (qs ++ #[rawInt pos.line,rawInt pos.col,.ref c']))) :
 Inv X pins σ (upd H c' (.frz oc (.cod qual))) { s with heap:=h'.push fo,toks:=tk }:=by
 have hcn:H c'=none:=I.hok.fresh hge;have neP:∀b,H b=none->b≠P:=λb n z=>by rw [z,hP]at n;cases n
 have hPc:P≠c':=λz=>by rw [z,hcn]at hP;cases hP
 have old:∀b o,b≠P->s.heap.get? b=some o->(h'.push fo).get? b=some o:=λb o n e=>Heap.get?_push_of_some _ (hx b o n e)
 have lt:∀b o,s.heap.get? b=some o->b≠c':=λb o e=>Nat.ne_of_lt (Nat.lt_of_lt_of_le (Heap.lt_size e) hge)
 refine I.step (g':=s.gens) (d':=s.drawn) (ch:=[]) (λ_ z=>nomatch z) (λb o _ _ _ e n=>old b o (neP b n) e) (λb o _ _ _ e n=>⟨o.slots,old b o (neP b n) e⟩) (λb o _ e n=>by rw [Zx (lt b o e)];exact n)
  (λb o _ e => ?_) (λb xs e=>by rw [Zx (Yy e hcn)];exact e) (λb o u e=>by rw [Zx (Yy e hcn)];exact e) (λb ps e=>⟨#[],by rw [Zx (Yy e hcn),e];simp⟩) (λm hm=>(hm.extBut hx (neP _ I.free)).push _) (λb u e => ?_) I.bare
 · by_cases hb:b=P
   · exact⟨_,by rw [hb];exact Heap.get?_push_of_some _ htb⟩
   · exact⟨o,old b o hb e⟩
 · by_cases hb:b=c'
   · subst hb
     rw [Yo]at e;cases e;obtain⟨c2,o,vs,t,e2,g,r⟩:=hrec;cases e2;exact⟨Heap.get?_push_of_some _ hoc,_,o,vs,t,rfl,Heap.get?_push_of_some _ g,r⟩
   · rw [Zx hb]at e
     by_cases hbP:b=P
     · subst hbP
       rw [hP]at e;cases e;refine⟨_,Heap.get?_push_of_some _ htb,?_,λpos' cv z => ?_⟩
       · have:=TriplesOk_snoc pos.line pos.col (.ref c') qs.toList ht
         simpa using this
       · have z:codeAmong pos' (qs.toList++[rawInt pos.line,rawInt pos.col,.ref c'])=some cv:=by simpa using z
         rcases ZaG _ ht z with z|z
         · obtain⟨c,oc',q,u,z1,z2,z3⟩:=hrow pos' cv z
           exact⟨c,oc',q,u,z1,by rw [Zx (Yy z2 hcn)];exact z2,z3⟩
         · exact⟨c',oc,qual,0,z,Yo,hps⟩
     · refine(I.hok b u e).stay (λc v hc q=>old c v ?_ q) (λc q=>by rw [Zx (Yy q hcn)];exact q) (λc xs q=>by rw [Zx (Yy q hcn)];exact q)
       rcases hc with rfl|hc
       · exact hbP
       · intro z
         rw [z,hP]at hc;cases hc
end
end L2
namespace L2
open PySem PySem.Spec PyProof.Rows
def drp(H:Hp)(cs:List Addr):Hp:=λb=>if b∈cs then none else H b
def put(H H':Hp)(cs:List Addr):Hp:=λb=>if b∈cs then H b else H' b
theorem Zc1{H:Hp}{cs:List Addr}{b:Addr}(h:b∈cs):drp H cs b=none:=if_pos h
theorem QD{H:Hp}{cs:List Addr}{b:Addr}(h:b∉cs):drp H cs b=H b:=if_neg h
theorem Zd9{H H':Hp}{cs:List Addr}{b:Addr}(h:b∈cs):put H H' cs b=H b:=if_pos h
theorem V3{H H':Hp}{cs:List Addr}{b:Addr}(h:b∉cs):put H H' cs b=H' b:=if_neg h
theorem Jp{H:Hp}{cs:List Addr}{b:Addr}(h:H b=none):drp H cs b=none:=by
 unfold drp
 split
 · rfl
 · exact h
abbrev Stl(H:Hp)(cs:List Addr):Prop:=∀c∈cs,∃o,H c=some (stl o)
theorem Stl.out{H:Hp}{cs:List Addr}(h:Stl H cs){b:Addr}{u:HO}(e:H b=some u)(n:∀o,u≠stl o):drp H cs b=some u:=by
 rw [QD λz => ?_]
 · exact e
 · obtain⟨o,ho⟩:=h b z
   rw [e]at ho;exact n o (Option.some.inj ho)
section
variable{X:Cx}{pins:List (Addr×Obj)}{σ:St}{H:Hp}{s s':Shared}{cs:List Addr}
theorem Inv.hokD(I:Inv X pins σ H s)(hc:Stl H cs):HOk X.prog X.w (drp H cs) s.heap:=λb o e=>by
 have hb:b∉cs:=λz=>by rw [Zc1 z]at e;cases e
 rw [QD hb]at e
 exact(I.hok b o e).stay (λ_ _ _ q=>q) (λb' q=>by
  by_cases hz:b'∈cs
  · obtain⟨o',ho'⟩:=hc b' hz
    rw [q]at ho';cases ho'
  · rw [QD hz];exact q) (λb' xs q=>hc.out q λo=>by simp) (λb' ob q e'=>hc.out e' λo=>by simp)
theorem Inv.stkOut(I:Inv X pins σ H s)(hc:Stl H cs){b:Addr}(h:b∈cs):b∉frs X.stack:=λz=>by
 obtain⟨o,ho⟩:=hc b h;rw [I.stkFree b z]at ho;cases ho
theorem Inv.env0D(I:Inv X pins σ H s)(hc:Stl H cs):Env0 X.prog X.w X.K X.mg (Uk s.heap (drp H cs) (frs X.stack)) X.A X.stack s (drp H cs):=
 ⟨I.ok.frames,I.ok.mod.keeps λb o e=>by
   refine ZbO (I.bs b o e).1 (Jp (I.bs b o e).2) λz => ?_
   exact(ZbI (I.base_wide b o e)).2.2 z,
   λb o e=>⟨(ZbI e).1,(ZbI e).2.1⟩,Nat.le_of_eq (PySem.W.hideAll_size _ _),Zcd (λL hL=>by
    cases q:(Uk s.heap (drp H cs) (frs X.stack)).get? L with
    |none=>rfl
    |some o=>exact absurd hL (ZbI q).2.2) I.stack,λb hb=>Jp (I.stkFree b hb),I.hokD hc,I.bare,λq hq=>by
    obtain⟨more,e⟩:=I.tabs q hq;exact⟨more,hc.out e λo=>by simp⟩⟩
theorem ZiK{Q:VK}{u:Value}(I:Inv X pins σ H s)(hc:Stl H cs)(h:CE X.stack X.prog X.w (drp H cs) s (λv H'=>(∀c∈cs,H' c=none)->Q v (put H H' cs)) u s'):CE X.stack X.prog X.w H s Q u s':=by
 obtain⟨v,H',os,bare,un,hok,r,q⟩:=h
 have old:∀c∈cs,∃o,H c=some (stl o)/\s.heap.get? c=some o:=λc h=>by
  obtain⟨o,e⟩:=hc c h;exact⟨o,e,(I.hok c _ e).1⟩
 have gone:∀c∈cs,H' c=none:=λc h=>by
  obtain⟨o,_,e⟩:=old c h;exact un.free c o e (Zc1 h) (by simp)
 have out:∀{b:Addr}{w':HO},H' b=some w'->b∉cs:=λe z=>by rw [gone _ z]at e;cases e
 refine⟨v,put H H' cs,os,bare,⟨λb o e n hb hx=>un.keep b o e (Jp n) hb hx,λb o e n hb hx=>un.slot b o e (Jp n) hb hx,λb o e n hx => ?_,un.there,λb xs e => ?_,λb o w' e => ?_,λb ps e => ?_⟩,λb o e => ?_,r,q gone⟩
 · have hb:b∉cs:=λz=>by obtain⟨o',e',_⟩:=old b z;rw [n]at e';cases e'
   rw [V3 hb];exact un.free b o e (Jp n) hx
 · have z:=un.tups b xs (hc.out e λo=>by simp)
   rw [V3 (out z)];exact z
 · by_cases hb:b∈cs
   · rw [Zd9 hb];exact e
   · rw [V3 hb]
     exact un.frzs b o w' (by rw [QD hb];exact e)
 · obtain⟨more,z⟩:=un.tbls b ps (hc.out e λo=>by simp)
   exact⟨more,by rw [V3 (out z)];exact z⟩
 · by_cases hb:b∈cs
   · rw [Zd9 hb]at e
     obtain⟨o',e',g⟩:=old b hb;rw [e']at e;cases e;have g':=un.keep b o' g (Zc1 hb) (I.stkOut hc hb) (by simp);exact⟨g',o',g'⟩
   · rw [V3 hb]at e
     exact(hok b o e).stay (λ_ _ _ z=>z) (λb' z=>by rw [V3 (out z)];exact z) (λb' xs z=>by rw [V3 (out z)];exact z) (λb' ob q z=>by rw [V3 (out z)];exact z)
end
abbrev cells(cl:List (Str×Addr)):List Addr:=cl.map (·.2)
theorem LamAt.stl{H:Hp}{p:Addr}{m:Lm}{cl:List (Str×Addr)}{vc:List V}(L:LamAt H p m cl vc):Stl H (cells cl):=λc hc=>by
 obtain⟨q,hq,rfl⟩:=List.mem_map.mp hc;obtain⟨o,_,e,_⟩:=L.cell q hq;exact⟨o,e⟩
structure LmOq(P:Program)(w:World)(K:PySem.W.Frag)(mg:Str->Option Value)(k:Nat)(m:Lm)(sp:List V->Sp):Prop where
 sc:CloScope m.N m.ps m.fr m.scope
 len:∀vc vs H Q E,sp vc vs H Q E->vs.length=m.ps.length
 bd:∀(cl:List (Str×Addr))(pm ct cd:Value)(us:List Value),us.length=m.ps.length->bindArgs (PySem.W.kla_fn "<lambda>" m.qual m.params m.body m.scope cl pm cd ct) ⟨us,[]⟩=pure (m.ps.zip us)
 run:∀(base:Heap)(f c:Addr)(cl:List (Str×Addr))(vc:List V)(A:Around)(outer:List Env)(s:Shared)(H:Hp)(vs:List V)(Q:VK)(E:XK),Room k (A.deeper (PySem.W.envX m.qual m.scope s.heap.objs.size f (.ref c) cl))->sp vc vs H Q E ->
  ∃t,PE (cxC P w K mg base m.N m.qual m.scope f (.ref c) cl A outer s H) m.body t/\t (start m.N (vs++vc)) H Q
section
variable{X:Cx}{pins:List (Addr×Obj)}{σ:St}{H:Hp}{s s':Shared}
theorem Zhn {k:Nat} {m:Lm} {sp:List V->Sp} {p:Addr} {cl:List (Str×Addr)} {vc vs:List V} {us:List Value} {Q:VK} (F:LmOq X.prog X.w X.K X.mg k m sp) (hr:Room (k+1) X.A) (I:Inv X pins σ H s) (L:LamAt H p m cl vc) (r:Vals vs us)
 (h:sp vc vs (drp H (cells cl)) (λv H'=>(∀c∈cells cl,H' c=none)->Q v (put H H' (cells cl))) E0):wpAny (model X.prog X.w) X.A (call (.ref p) us) (EP X pins σ Q) X.xe s:=by
 have hc:=L.stl;have hl:=F.len _ _ _ _ _ h;obtain⟨pm,c,ct,hp⟩:=L.fn;obtain⟨_,oc,hcod⟩:=(I.hok p _ hp).2;have e0:=I.env0D hc
 have hcell:∀x c',cl.lookup x=some c'->∀o,H c'=some (L2.stl o)->(Uk s.heap (drp H (cells cl)) (frs X.stack)).get? c'=some o:=λx c' e o ho=>by
  have hm:c'∈cells cl:=List.mem_map.mpr ⟨(x,c'),PySem.mem_of_lookup e,rfl⟩;exact ZbO (I.hok c' _ ho).1 (Zc1 hm) (I.stkOut hc hm)
 have C:Caps (Uk s.heap (drp H (cells cl)) (frs X.stack)) cl m.fr vc:=by
  refine⟨L.inj,λx c' e => ?_,λi x e => ?_,L.len⟩
  · obtain⟨o,v,e1,e2⟩:=L.cell (x,c') (PySem.mem_of_lookup e)
    exact⟨v,o,hcell x c' e o e1,e2⟩
  · obtain⟨c',u,v,o,e1,e2,e3,e4,e5⟩:=L.get i x e
    exact⟨c',u,v,e1,e2,e3,o,hcell x c' e1 o e4,e5⟩
 have lim:s.heap.NoLimit:=I.nolimit;have hcd:s.heap.CodeRec (.ref c) m.qual:=(I.hok c _ hcod).2;have hus:us.length=m.ps.length:=by rw [<-r.length];exact hl
 refine wpAny_call (codeAny_mono (R:=CR CX0 X.stack X.prog X.w H s Q E0) ?_ λr s' hq => ?_)
 · refine PySem.W.kla_callFunE hr.depth (I.hok p _ hp).1 rfl F.sc.co F.sc.gen rfl hcd ?_
   rw [F.bd cl pm ct (.ref c) us hus];refine wpAny_pure (wpAny_newFunctionEnv (λx hx=>(F.sc.all x hx).1) (λx hx=>F.sc.par x.1 (List.of_mem_zip hx).1) (λh₁ hns hsb=>⟨lim.fresh _ hsb,?_⟩) F.sc.kind);have hk:∀b o,s.heap.get? b=some o->h₁.get? b=some o:=λb o e=>hsb.extBut b o (Nat.ne_of_lt (Heap.lt_size e)) (Heap.get?_push_of_some _ e)
   show codeAny _ _ (.expr m.body (PySem.W.envX m.qual m.scope s.heap.objs.size p (.ref c) cl)) _ _;obtain⟨t,ht,hq⟩:=F.run (Uk s.heap (drp H (cells cl)) (frs X.stack)) p c cl vc X.A X.stack s (drp H (cells cl)) vs _ E0 (hr.deeper _) h;have J:=Zhm (qual:=m.qual) (f:=p) (cd:=.ref c) (tk:=s.toks+(m.ps.zip us).length) F.sc C hr.hd e0 hl r hns hk;refine PySem.W.kla_codeExpr (wpAny_mono (ht [] _ _ _ _ J hq) (λu s' ⟨v,H',J',rv,q⟩ => ?_) λe s' z=>False.elim z)
   exact ZiK I hc ⟨v,H',J'.os,J'.bare,J'.base,J'.hok,rv,q⟩
 · cases r with
   |error e=>exact False.elim hq
   |ok fl=>
    cases fl with
    |ret u=>exact I.after hq
    |next=>exact False.elim hq
    |brk=>exact False.elim hq
    |cont=>exact False.elim hq
end
end L2
namespace L2
open PySem PySem.Spec PyProof.Rows
section
variable{X:Cx}{pins:List (Addr×Obj)}{σ:St}{H:Hp}{s s':Shared}
def Zgw(i:Nat)(ms:List (Lm×(List V->Sp)))(t:TA):TE:=λσ H Q=>∃p fo fd u,σ[i]? = some (some (.ref p))/\H p=some (.frz fo u)/\fo.data = .func fd /\
 t σ H λvs H1=>∃m∈ms,∃cl vc,LamAt H1 p m.1 cl vc/\m.2 vc vs (drp H1 (cells cl)) (λv H'=>(∀c∈cells cl,H' c=none)->Q v (put H1 H' (cells cl))) E0
theorem ZfV {i k:Nat} {x:Str} {ms:List (Lm×(List V->Sp))} {pn pos:Pos} {e:Expr} {es:List Expr} {t:TA} (F:∀m∈ms,LmOq X.prog X.w X.K X.mg k m.1 m.2) (hr:Room (k+1) X.A)
 (hN:X.N[i]? = some x) (hv:Vis X.env.scope x) (ha:PA X (e::es) t)
 (hd:(x == ("__debug__" : Str))=false:=by decide) (hcd:(x == ("__classdict__" : Str))=false:=by decide)
 (he:starEach (e::es) X.env=(false,eval e X.env)::starEach es X.env:=by rfl) (hpl:(backTo pos (starEach es X.env)).any (·.1)=false:=by rfl) :
 PE X (.Call (.Name x pn) (e::es) [] pos) (Zgw i ms t):=by
 intro pins s σ H Q I h;obtain⟨p,fo,fd,u0,h0,hp,hdat,h⟩:=h
 have fa:∀{fo:Obj}{u:HO}{fd:FuncData}{σ:St}{H:Hp}{s:Shared},Inv X pins σ H s->H p=some (.frz fo u)->fo.data = .func fd->PySem.W.FnAt p s.heap:=λ{fo u fd σ H s} J e hdat=>by
  obtain⟨a,b,c,d⟩:=fo;dsimp only at hdat;subst hdat;exact⟨a,b,_,d,(J.hok p _ e).1⟩
 refine wpAny_Call_Name_kw (thn (Zd2 hN hv hd hcd pins s σ H (λv H'=>v = .ref p/\H'=H) I ⟨_,h0,rfl,rfl⟩) λu s1 ⟨v,H1,I1,rv,e1,e2⟩ => ?_);subst e1 e2;cases rv;refine PySem.W.callWith_F (fa I1 hp hdat) (thn (ha pos pins s1 σ _ _ I1 h) λus s2 ⟨vs,H2,I2,r,q⟩ => ?_) he hpl;obtain⟨m,hm,cl,vc,L,q⟩:=q;obtain⟨pm,c,ct,hp2⟩:=id L.fn;exact⟨fa I2 hp2 rfl,Zhn (F m hm) hr I2 L r q⟩
end
theorem Zce(env:Env)(b:List Stmt):∀a:List Stmt,execs (a++b) env=(do match <-execs a env with | .next=>execs b env|f=>pure f)
 | []=>by
  show execs b env=_;rw [arm_execs_nil,pure_bind]
 |st::a=>by
  show execs (st::(a++b)) env=_;rw [execs_cons,execs_cons,bind_assoc];refine bind_congr λf => ?_
  cases f with
  |next=>exact Zce env b a
  |_=>rw [pure_bind]
def Jq(H:Hp)(h:Heap)(l:List Addr):Hp:=λb=>if b∈l then(h.get? b).map L2.stl else H b
theorem Zho{H:Hp}{h:Heap}{l:List Addr}{b:Addr}{o:Obj}(hb:b∈l)(e:h.get? b=some o):Jq H h l b=some (stl o):=by
 unfold Jq;rw [if_pos hb,e];rfl
theorem ZfW{H:Hp}{h:Heap}{l:List Addr}{b:Addr}(hb:b∉l):Jq H h l b=H b:=if_neg hb
section
variable{X:Cx}{pins:List (Addr×Obj)}{σ:St}{H:Hp}{s s':Shared}
theorem ZiL{Q:VK}{u:Value}{v:V}{l:List Addr}{H3:Hp}(J:Inv X pins σ H s)(hex:X.ex=[])(hl:∀b∈l,H b=none/\X.s₀.heap.objs.size<=b)(h3:∀b,b∉l->H3 b=H b)(hk:∀b∈l,∀o,H3 b=some o->ObjOk X.prog X.w H3 s.heap b o)(r:RelV v u)(q:Q v H3):CE X.outer X.prog X.w X.H₀ X.s₀ Q u s:=by
 have out:∀{b:Addr}{w':HO},H b=some w'->b∉l:=λe z=>by rw [(hl _ z).1]at e;cases e
 have un:=J.base;rw [hex]at un;refine⟨v,_,J.os,J.bare,⟨un.keep,un.slot,λb o e n hx => ?_,un.there,λb xs e => ?_,λb o w' e => ?_,λb ps e => ?_⟩,λb o e => ?_,r,q⟩
 · rw [h3 b λz=>absurd (Nat.lt_of_lt_of_le (Heap.lt_size e) (hl b z).2) (Nat.lt_irrefl _)]
   exact un.free b o e n hx
 · have z:=un.tups b xs e
   rw [h3 _ (out z)];exact z
 · have z:=un.frzs b o w' e
   rw [h3 _ (out z)];exact z
 · obtain⟨more,z⟩:=un.tbls b ps e
   exact⟨more,by rw [h3 _ (out z)];exact z⟩
 · by_cases hb:b∈l
   · exact hk b hb o e
   · rw [h3 _ hb]at e
     exact(J.hok b o e).stay (λ_ _ _ z=>z) (λb' z=>by rw [h3 _ (out z)];exact z) (λb' xs z=>by rw [h3 _ (out z)];exact z) (λb' ob q z=>by rw [h3 _ (out z)];exact z)
theorem ZfX {m:Lm} {pos:Pos} {cl:List (Str×Addr)} {c0 P:Addr} {E:Value->Shared->Prop} {Q:Value->Shared->Prop} (I:Inv X pins σ H s) (Nk:NestK X.K X.mg c0 P) (htab:(P,m.qual)∈Xe X.K) (hcode:X.env.code = .ref c0) (hcl:closureFor m.scope X.env=pure cl)
 (hq:X.env.qual ++ "<lambda>" = m.qual) (hdef:defaultsOf m.params X.env=([],[]))
 (h:∀(p c:Addr)(pm ct:Value)(oc:Obj)(H':Hp)(s':Shared),Same H H'->H' c=some (.frz oc (.cod m.qual))->Inv X pins σ H' s'->H' p=none->s.heap.objs.size<=p->s'.heap.get? p=some (PySem.W.kla_obj "<lambda>" m.qual m.params m.body m.scope cl pm c ct)->Q (.ref p) s') :
 wpAny (model X.prog X.w) X.A (eval (.Lambda m.params m.body m.scope pos) X.env) Q E s:=by
 obtain⟨more,hP⟩:=I.tabs _ htab;have hP:H P=some (.tbl (#[.str m.qual 0]++more)):=hP
 have hps:(#[Value.str m.qual 0]++more)[0]? = some (.str m.qual 0):=by
  rw [Array.getElem?_append_left (by simp)];rfl
 obtain⟨qs,eq,ht,hrow⟩:=I.hok P _ hP;have Nn:=Nk.at I.mod.kin;obtain⟨bm,ob,b1,b2,b3,b4,b5,b6⟩:=Nn.bm;have hg:=I.mod.glob.keeps I.bk
 have neP:∀b o,X.base.get? b=some o->b≠P:=λb o e z=>by
  have:=(I.bs b o e).2;rw [z,hP]at this;cases this
 have hgP:mainGlobals≠P:=by
  obtain⟨o,_,_,e,_⟩:=I.mod.glob;exact neP _ o e
 have hbG:bm≠mainGlobals:=λq=>by
  obtain⟨o,es,ep,e,hd,_⟩:=I.mod.glob;rw [q,e]at b3;cases b3;rw [hd]at b6;cases b6
 have hb:s.heap.BuiltinsAt X.mg P:=⟨bm,ob,b1,b2,hbG,neP bm ob b3,I.bk _ _ b3,b4,b5,b6⟩
 have hC:=Nn.hd.keeps I.bk;refine PySem.W.kla_eval hdef ?_;rw [hq];cases hz:codeAmong pos qs.toList with
 |none=>
  refine PySem.W.kla_makeFunction (mg:=X.mg) hcl I.ok.glob hg hcode hC eq ht hz hgP hb λc' ctv h' tk hx hge hlt hrec htb => ?_
  have hcn:H c'=none:=I.hok.fresh hge;obtain⟨c2,oc,vs2,t2,e2,hoc,_⟩:=id hrec;cases e2;refine h _ c' _ ctv oc (upd H c' (.frz oc (.cod m.qual))) _ (λb o e=>by rw [Zx (Yy e hcn)];exact e) Yo (ZfU I hP hps eq ht hrow hx hge hoc hrec htb) ?_ (Nat.le_trans hge (Nat.le_of_lt hlt)) (Heap.get?_push_size _ rfl);rw [Zx (Nat.ne_of_gt hlt)];exact I.hok.fresh (Nat.le_trans hge (Nat.le_of_lt hlt))
 |some cv=>
  obtain⟨c,oc,q,u,e1,e2,e3⟩:=hrow pos cv hz;rw [hps]at e3;cases e3;subst e1;refine PySem.W.kla_makeFunctionHit (mg:=X.mg) hcl I.ok.glob hg hcode hC eq ht hz hb λctv h' tk hk hsz => ?_
  exact h _ c _ ctv oc H _ (Same.refl H) e2 (I.kept λb o e=>Heap.get?_push_of_some _ (hk b o e)) (I.hok.fresh hsz) hsz (Heap.get?_push_size _ rfl)
end
end L2
namespace L2
open PySem PySem.Spec PyProof.Rows
section
variable{X:Cx}{pins:List (Addr×Obj)}{σ:St}{H:Hp}{s s':Shared}
structure LamIn(X:Cx)(m:Lm)(js:List Nat)(cl:List (Str×Addr)):Prop where
 hcl:closureFor m.scope X.env=pure cl
 hce:∀q∈cl,X.env.cells.lookup q.1=some q.2
 hjs:∀(i:Nat)(y:Str),m.fr[i]? = some y->∃j c,js[i]? = some j/\X.N[j]? = some y/\(X.env.kindOf y=some .cell\/X.env.kindOf y=some .free)/\Vis X.env.scope y/\cl.lookup y=some c
 hjl:js.length=m.fr.length
 hq:X.env.qual ++ "<lambda>" = m.qual
 hdef:defaultsOf m.params X.env=([],[])
def Holds(σ:St)(js:List Nat)(vc:List V):Prop:=vc.length=js.length/\∀i j:Nat,js[i]? = some j->∃v,σ[j]? = some (some v)/\vc[i]? = some v
theorem Zhp {m:Lm} {js:List Nat} {cl:List (Str×Addr)} {pos pos2:Pos} {c0 P:Addr} {vc:List V} {Q:VK} {E:Value->Shared->Prop} (I:Inv X pins σ H s) (W:LamIn X m js cl) (hex:X.ex=[]) (hfn:∀y,X.fn y=true) (Nk:NestK X.K X.mg c0 P) (htab:(P,m.qual)∈Xe X.K) (hcode:X.env.code = .ref c0)
 (hv:Holds σ js vc) (h:∀p cl H',Same H H'->X.s₀.heap.objs.size<=p->(∀q∈cl,X.s₀.heap.objs.size<=q.2)->LamAt H' p m cl vc->Q (.ref p) H') :
 wpAny (model X.prog X.w) X.A (exec (.Return (some (.Lambda m.params m.body m.scope pos)) pos2) X.env) (λf s'=>∃u,f = .ret u/\CE X.outer X.prog X.w X.H₀ X.s₀ Q u s') E s:=by
 refine wpAny_Return_some (ZfX I Nk htab hcode W.hcl W.hq W.hdef λp c pm ct oc H' s' sm hc J hpn hge hp=>⟨_,rfl,?_⟩)
 have cell:∀q∈cl,∃o v,s'.heap.get? q.2=some o/\o.data = .cell v:=λq hq=>by
  obtain⟨v,o,e1,e2⟩:=J.cell q.1 q.2 (W.hce q hq);exact⟨o,v,e1,e2⟩
 have hl:∀b∈p::cells cl,H' b=none/\X.s₀.heap.objs.size<=b:=λb hb=>by
  rcases List.mem_cons.mp hb with e|hb
  · subst e
    exact⟨hpn,Nat.le_trans I.sz hge⟩
  · obtain⟨q,hq,rfl⟩:=List.mem_map.mp hb
    exact⟨J.freeC q.1 q.2 (W.hce q hq),J.ok.cab q.1 q.2 (hfn _) (W.hce q hq)⟩
 have out:∀{b:Addr}{w':HO},H' b=some w'->b∉p::cells cl:=λe z=>by rw [(hl _ z).1]at e;cases e
 have np:∀q∈cl,q.2≠p:=λq hq z=>by
  obtain⟨o,v,e1,e2⟩:=cell q hq;rw [z,hp]at e1;cases e1;cases e2
 have inC:∀q∈cl,∀o,s'.heap.get? q.2=some o->upd (Jq H' s'.heap (cells cl)) p (.frz (PySem.W.kla_obj "<lambda>" m.qual m.params m.body m.scope cl pm c ct) (.fnc c m.qual)) q.2=some (stl o):=λq hq o e=>by
  rw [Zx (np q hq),Zho (List.mem_map.mpr ⟨q,hq,rfl⟩) e]
 have h3:∀b,b∉p::cells cl->upd (Jq H' s'.heap (cells cl)) p (.frz (PySem.W.kla_obj "<lambda>" m.qual m.params m.body m.scope cl pm c ct) (.fnc c m.qual)) b=H' b:=λb hb=>by
  rw [Zx λz=>hb (by rw [z];exact List.mem_cons_self),ZfW λz=>hb (List.mem_cons_of_mem _ z)]
 refine ZiL (v:=.ref p) J hex hl h3 (λb hb o e => ?_) rfl (h p cl _ (λb o e => ?_) (hl p List.mem_cons_self).2 (λq hq=>(hl q.2 (List.mem_cons_of_mem _ (List.mem_map.mpr ⟨q,hq,rfl⟩))).2) ⟨⟨pm,c,ct,Yo⟩,λx y c e1 e2 => ?_,λq hq => ?_,λi y hy => ?_,hv.1.trans W.hjl⟩)
 · rcases List.mem_cons.mp hb with z|hb
   · subst z
     rw [Yo]at e;cases e;exact⟨hp,⟨_,hp⟩,oc,by rw [h3 _ (out hc)];exact hc⟩
   · obtain⟨q,hq,rfl⟩:=List.mem_map.mp hb
     obtain⟨o',v,e1,_⟩:=cell q hq;rw [inC q hq o' e1]at e;cases e;exact⟨e1,o',e1⟩
 · have z:=sm b o e
   rw [h3 _ (out z)];exact z
 · exact J.ok.inj x y c (W.hce _ (PySem.mem_of_lookup e1)) (W.hce _ (PySem.mem_of_lookup e2))
 · obtain⟨o,v,e1,e2⟩:=cell q hq
   exact⟨o,v,inC q hq o e1,e2⟩
 · obtain⟨j,c,e1,e2,e3,e4,e5⟩:=W.hjs i y hy
   obtain⟨v,h1,h2⟩:=hv.2 i j e1;have hc2:=W.hce (y,c) (PySem.mem_of_lookup e5);obtain⟨mm,_,hl'⟩:=J.loc;obtain⟨u,rv,lk⟩:=hl' j y v e2 h1 e4;rcases lk with⟨k1,_⟩|⟨_,c',hc',o,ho,hd⟩
   · rcases e3 with z|z<;>(rw [k1]at z;cases z)
   · have hc2':X.env.cells.lookup y=some c:=hc2
     rw [hc']at hc2';cases hc2';exact⟨_,u,v,o,e5,h2,rv,inC _ (PySem.mem_of_lookup e5) o ho,hd⟩
end
theorem Zhq {CX:CXT} {P:Program} {w:World} {K:PySem.W.Frag} {mg:Str->Option Value} {base:Heap} {k:Nat} {f:Addr} {name qual:Str} {params:Arguments} {pre:List Stmt} {scope:Scope} {dV kV doc pm ct oc:Value} {an od:Option Addr}
 {osl:Array (Option Value)} {N ps:List Str} {sp:Sp} {m:Lm} {js:List Nat} {pos pos2:Pos} {c0 Pt:Addr}
 (lk:K.lookup f=some ⟨oc,od,.func (fnOf name qual params (pre++[.Return (some (.Lambda m.params m.body m.scope pos)) pos2]) scope dV kV doc pm an (.ref c0) ct),osl⟩) (hcd:codeIn K (.ref c0) qual=true) (S:FnScope N ps scope)
 (Nk:NestK K mg c0 Pt) (htab:(Pt,m.qual)∈Xe K)
 (W:∀(A:Around)(outer:List Env)(s:Shared)(H:Hp)(E:XK),∃cl,LamIn (YK CX P w K mg base N qual scope f (.ref c0) A outer s H E) m js cl)
 (len:∀vs H Q E,sp vs H Q E->vs.length=ps.length)
 (hbody:∀(A:Around)(outer:List Env)(s:Shared)(H:Hp)(vs:List V)(Q:VK)(E:XK),Room k (A.deeper (envOfC qual scope s.heap.objs.size f (.ref c0)))->sp vs H Q E ->
   ∃t,PSs (YK CX P w K mg base N qual scope f (.ref c0) A outer s H E) pre t/\t { nx:=λσ H'=>∃vc,Holds σ js vc/\∀p cl H'',Same H' H''->H p=none->(∀q∈cl,H q.2=none)->LamAt H'' p m cl vc->Q (.ref p) H'',rt:=Q } (start N vs) H) :
 FnOk P w K mg base CX (k+1) f (fnOf name qual params (pre++[.Return (some (.Lambda m.params m.body m.scope pos)) pos2]) scope dV kV doc pm an (.ref c0) ct) ps sp:=by
 refine⟨len,λA outer s H args us vs Q E hr e0 hb r hsp => ?_⟩;have hl:=len _ _ _ _ hsp;have KX:K.In s.heap:=e0.mod.kin.keeps λb o e=>(e0.bs b o e).1
 have lim:s.heap.NoLimit:=e0.mod.nolimit.keeps λb o e=>(e0.bs b o e).1
 have hkind:∀y∈ps.zip us,scope.names.lookup y.1=some .local\/(scope.names.lookup y.1=some .cell/\((cellsFrom (s.heap.objs.size+1) scope.names []).lookup y.1).isSome=true):=λ⟨n,v⟩ hy=>by
  rcases S.par n (List.of_mem_zip hy).1 with q|q
  · exact .inl q
  · exact .inr ⟨q,PySem.W.cellsFrom_some _ _ _ (.inl q)⟩
 refine codeAny_call_function hr.depth (KX _ _ lk) rfl S.co S.gen rfl (PySem.W.codeRec_of KX hcd) (hb _ _ _ _ ?_);refine wpAny_newFunctionEnv_cells S.kind hkind λenv he s1 x => ?_
 subst he;refine⟨lim.keeps x.toInCall.keep,codeAny_func ?_⟩;obtain⟨t,ht,hq⟩:=hbody A outer s H vs Q E (hr.deeper _) hsp;have I0:Inv (YK CX P w K mg base N qual scope f (.ref c0) A outer s H E) [] (start N vs) H s1:=Zb5 S hr.hd e0 hl r x;rw [Zce];refine wpAny_bind (wpAny_mono (ht [] s1 (start N vs) H _ I0 hq) (λfl s' hs => ?_) λe s' hs=>hs)
 have fin:∀{σ':St}{H':Hp}{v:V}{u:Value},Inv (YK CX P w K mg base N qual scope f (.ref c0) A outer s H E) [] σ' H' s'->RelV v u->Q v H'->CE outer P w H s Q u s':=
  λ{σ' H' v u} J rv q=>⟨v,H',J.os,J.bare,J.base,J.hok,rv,q⟩
 cases fl with
 |ret u=>
  obtain⟨v,σ',H',J,rv,q⟩:=hs;exact wpAny_pure (fin J rv q)
 |next=>
  obtain⟨σ',H',J,vc,hv,q⟩:=hs;obtain⟨cl,hW⟩:=W A outer s H E;refine wpAny_execs_cons (wpAny_mono (Zhp J hW rfl (λ_=>rfl) Nk htab rfl hv λp cl H'' sm h1 h2=>q p cl H'' sm (e0.hok.fresh h1) λx hx=>e0.hok.fresh (h2 x hx)) (λfl2 s2 ⟨u,e,z⟩ => ?_) λe s' z=>z);subst e;exact z
 |brk=>
  obtain⟨_,_,_,q⟩:=hs;exact False.elim q
 |cont=>
  obtain⟨_,_,_,q⟩:=hs;exact False.elim q
end L2
namespace DL
open PySem PySem.Spec L2
section
variable{cA:Kn}{G:Cn}{ow owN owB owC:List Nat}
def pick(δ:Env):List Nat->Option (List D)
 | []=>some []
 |j::js=>match δ[j]?,pick δ js with
  |some (some d),some xs=>some (d::xs)
  |_,_=>none
theorem Zey{H0:Hp}{av:Addr->Prop}{A:Nat->Option Addr}{σ:L2.St}{H:Hp}{δ:Env}(E:ER G ow H0 av A σ H δ):∀{js:List Nat}{xs:List D},pick δ js=some xs->∃vc,Holds σ js vc/\RepL G.1 av H xs vc
 | [],xs,h=>by
  cases h;exact⟨[],⟨rfl,λi j e=>by simp at e⟩,RepL.nil⟩
 |j::js,xs,h=>by
  unfold pick at h
  split at h
  · rename_i d ys e1 e2
    cases h;obtain⟨vc,hv,r⟩:=Zey E e2;obtain⟨v,e3,k1,k2⟩:=E.var j d e1
    have hr:Rep G.1 av H d v:=by
     cases hA:A j with
     |none=>exact(k1 hA).av λb z => .inl (.inl z)
     |some a=>
      obtain⟨e4,o⟩:=k2 a hA;subst e4;exact Own.rep (λz=>E.avd a z (E.fr j a hA)) (o.av λb z => .inl (.inl z))
    refine⟨v::vc,⟨by rw [List.length_cons,List.length_cons,hv.1],λi k e => ?_⟩,RepL.cons hr r⟩;cases i with
    |zero=>
     cases e;exact⟨v,e3,rfl⟩
    |succ i=>exact hv.2 i k e
  · cases h
def V4(N:Nat)(φ:Env->Option Out)(k:Nat)(js:List Nat)(ds:List D):Option D:=match φ (ds.map some++List.replicate (N-ds.length) none)with
 |some (.rt d)=>some d
 |some (.nx δ)=>(pick δ js).map (D.clo k)
 |_=>none
theorem Zhr {P:Program} {w:World} {K:PySem.W.Frag} {mg:Str->Option Value} {base:Heap} {x qual:Str} {st:Stmt} {f:Addr} {fd:FuncData} {N ps:List Str} {k n i:Nat} {φ:Env->Option Out} {pre:List Stmt} {scope:Scope} {js:List Nat} {pos pos2:Pos} {c0 Pt:Addr} {m:List D->Option D}
 (F:FunX K x qual st f fd) (S:FnScope N ps (defScope st)) (hS:defScope st=scope) (hB:defBody st=pre++[.Return (some (.Lambda (cA.lm i).params (cA.lm i).body (cA.lm i).scope pos)) pos2]) (hc0:fd.code = .ref c0)
 (Nk:NestK K mg c0 Pt) (htab:(Pt,(cA.lm i).qual)∈Xe K)
 (W:∀(A:Around)(outer:List PySem.Env)(s:Shared)(H:Hp)(E:XK),∃cl,LamIn (YK CX0 P w K mg base N qual scope f (.ref c0) A outer s H E) (cA.lm i) js cl)
 (hbody:∀(A:Around)(outer:List PySem.Env)(s:Shared)(H:Hp)(E:XK),Room k (A.deeper (PyProof.Rows.envOfC qual scope s.heap.objs.size f (.ref c0))) ->
   ∃t,PSs (YK CX0 P w K mg base N qual scope f (.ref c0) A outer s H E).nox pre t/\∃owN,VS ⟨cA,λ_=>none⟩ [] owN [] [] t φ) (hm:m=V4 N.length φ i js) (hn:ps.length=n):FnOk P w K mg base CX0 (k+1) f fd ps (spD cA n m):=by
 subst hS hm hn;obtain⟨oc,od,dV,kV,doc,pm,an,cdv,ct,osl,rfl,lk,hcd⟩:=F.ex;cases(show cdv = .ref c0 from hc0);rw [hB]at lk ⊢;refine Zhq lk hcd S Nk htab W (λvs H Q E h => ?_) λA outer s H vs Q E hr h => ?_
 · obtain⟨av,ds,d,_,r,hl,_⟩:=h
   rw [<-r.length,hl]
 · obtain⟨av,ds,d,ha,r,hl,hm,q⟩:=h
   obtain⟨t,ht,owN,hv⟩:=hbody A outer s H E hr;refine⟨t,ht.nox,?_⟩;unfold V4 at hm;cases hφ:φ (ds.map some++List.replicate (N.length-ds.length) none)with
   |none=>rw [hφ]at hm;cases hm
   |some o=>
    rw [hφ]at hm;refine hv H av _ _ H _ (Jh ha r) o hφ _ ?_;cases o with
    |nx δ'=>
     intro A' σ' H' E';cases hp:pick δ' js with
     |none=>dsimp only at hm;rw [hp]at hm;cases hm
     |some xs=>
      dsimp only at hm;rw [hp]at hm;cases hm;obtain⟨vc,hvc,rc⟩:=Zey E' hp;refine⟨vc,hvc,λp cl H'' sm h1 h2 L=>q _ H'' (E'.same.trans sm) ?_⟩;unfold Rep;exact⟨p,cl,vc,rfl,λz=>ha p z h1,λx hx z=>ha x.2 z (h2 x hx),L,rc.same sm⟩
    |rt d'=>cases hm;exact λv H' s' r'=>q v H' s' r'
    |bk δ'=>cases hm
    |ct δ'=>cases hm
end
end DL
namespace DL
open PySem PySem.Spec L2
mutual
def ncl:D->Bool
 | .lst xs=>XG xs
 | .tup xs=>XG xs
 | .obj _ _ xs=>XG xs
 | .dct _ xs=>XG xs
 | .dtt _ xs=>XG xs
 | .clo _ _=>false
 |_=>true
def XG:List D->Bool
 | []=>true
 |x::xs=>ncl x&&XG xs
end
section
variable{cA:Kn}{G:Cn}{ow owN owB owC:List Nat}
variable{av:Addr->Prop}{H:Hp}{cs:List Addr}
theorem ZiM{a:Addr}{u:HO}(hc:Stl H cs)(hu:∀o,u≠stl o)(hf:u ≠ .own 0)(h:Rd H a u):Rd (drp H cs) a u:=by
 rcases h with h|⟨o,h⟩
 · exact .inl (hc.out h hu)
 · exact .inr ⟨o,hc.out h λo' z=>by cases z;exact hf rfl⟩
theorem ZiN{K:PySem.W.Frag}{a:Addr}{vs:List V}(hc:Stl H cs)(h:SqL K H a vs):SqL K (drp H cs) a vs:=by
 rcases h with h|h
 · exact .inl (ZiM hc (λo=>by simp) (by simp) h)
 · exact .inr h
mutual
theorem Rep.drp(hc:Stl H cs):∀{d:D}{v:V},ncl d=true->Rep cA av H d v->Rep cA av (L2.drp H cs) d v
 | .non,_,_,h=>h
 | .bl _,_,_,h=>h
 | .int _,_,_,h=>h
 | .str _,_,_,h=>h
 | .lst xs,v,n,h=>by
  unfold Rep at h ⊢;obtain⟨a,vs,e,n1,r,l⟩:=h;exact⟨a,vs,e,n1,ZiN hc r,RepL.drp hc (by unfold ncl at n;exact n) l⟩
 | .tup xs,v,n,h=>by
  unfold Rep at h ⊢;obtain⟨a,vs,e,n1,r,l⟩:=h;exact⟨a,vs,e,n1,hc.out r λo=>by simp,RepL.drp hc (by unfold ncl at n;exact n) l⟩
 | .obj c ks xs,v,n,h=>by
  unfold Rep at h ⊢;obtain⟨a,dx,vs,e,n1,r,z,l⟩:=h;exact⟨a,dx,vs,e,n1,hc.out r λo=>by simp,z,RepL.drp hc (by unfold ncl at n;exact n) l⟩
 | .dct ks xs,v,n,h=>by
  unfold Rep at h ⊢;obtain⟨a,vs,e,n1,r,z,l⟩:=h;exact⟨a,vs,e,n1,hc.out r λo=>by simp,z,RepL.drp hc (by unfold ncl at n;exact n) l⟩
 | .dtt ks xs,v,n,h=>by
  unfold Rep at h ⊢;obtain⟨a,vs,e,n1,r,z,l⟩:=h;exact⟨a,vs,e,n1,hc.out r λo=>by simp,z,RepL.drp hc (by unfold ncl at n;exact n) l⟩
 | .clo k xs,v,n,h=>by unfold ncl at n;cases n
theorem RepL.drp(hc:Stl H cs):∀{xs:List D}{vs:List V},XG xs=true->RepL cA av H xs vs->RepL cA av (L2.drp H cs) xs vs
 | [],_,_,h=>h
 |x::xs,vs,n,h=>by
  unfold RepL at h ⊢;obtain⟨v,r,e,h1,h2⟩:=h;unfold XG at n;obtain⟨n1,n2⟩:=Bool.and_eq_true_iff.mp n;exact⟨v,r,e,Rep.drp hc n1 h1,RepL.drp hc n2 h2⟩
end
def Vl(cA:Kn)(n:Nat)(m:List D->Option D)(vc:List V):Sp:=λvs H Q _=>∃av ds cs d,(∀a,av a->H a≠none)/\RepL cA av H ds vs/\ds.length=n/\RepL cA av H cs vc/\m (ds++cs)=some d/\∀v H',Same H H'->Rep cA av H' d v->Q v H'
def U2(N:Nat)(ε:Env->Option D)(ds:List D):Option D:=ε (ds.map some++List.replicate (N-ds.length) none)
theorem RepQ.none_of{q:Ql}{d:D}{v:V}{H':Hp}(h:RepQ cA av (λ_=>none) H' q d v):Rep cA av H' d v:=by
 have w:∀a,AV av (λ_=>none) a->av a:=λa z=>z.elim id λ⟨_,z⟩=>by cases z
 cases q with
 |cl=>exact(RepT.weak (λa z => .inl z) (λa z => .inl z) h).r
 |tp=>exact(RepT.weak (λa z=>z) (λa z => .inl z) h).r
 |dt=>exact RepT.r h
theorem ZkF {P:Program} {w:World} {K:PySem.W.Frag} {mg:Str->Option Value} {k n:Nat} {m:Lm} {ε:Env->Option D} {f:List D->Option D} (S:CloScope m.N m.ps m.fr m.scope)
 (bd:∀(cl:List (Str×Addr))(pm ct cd:Value)(us:List Value),us.length=m.ps.length->bindArgs (PySem.W.kla_fn "<lambda>" m.qual m.params m.body m.scope cl pm cd ct) ⟨us,[]⟩=pure (m.ps.zip us))
 (hbody:∀(base:Heap)(f c:Addr)(cl:List (Str×Addr))(A:Around)(outer:List PySem.Env)(s:Shared)(H:Hp),Room k (A.deeper (PySem.W.envX m.qual m.scope s.heap.objs.size f (.ref c) cl)) ->
   ∃t,PE (cxC P w K mg base m.N m.qual m.scope f (.ref c) cl A outer s H) m.body t/\∃q,VE ⟨cA,λ_=>none⟩ [] t q ε) (hf:f=U2 m.N.length ε) (hn:m.ps.length=n) :
 LmOq P w K mg k m (Vl cA n f):=by
 subst hf hn;refine⟨S,λvc vs H Q E h => ?_,bd,λbase f c cl vc A outer s H vs Q E hr h => ?_⟩
 · obtain⟨av,ds,cs,d,_,r,hl,_⟩:=h
   rw [<-r.length,hl]
 · obtain⟨av,ds,cs,d,ha,r,hl,rc,hm,q⟩:=h
   obtain⟨t,ht,ql,hv⟩:=hbody base f c cl A outer s H hr;exact⟨t,ht,hv H av _ _ H _ (Jh (N:=m.N) ha (r.append rc)) d hm _ λv H' s' r'=>q v H' s' (RepQ.none_of r')⟩
abbrev LTab:=List (Nat×Nat×(List D->Option D))
def Jr(i:Nat)(tab:LTab)(α:Env->Option (List D))(δ:Env):Option D:=match δ[i]?,α δ with
 |some (some (.clo k xs)),some ds=>match tab.find? (·.1 == k)with
  |some (_,n,m)=>if ds.length=n/\XG ds=true/\XG xs=true then m (ds++xs)else none
  |none=>none
 |_,_=>none
theorem ZfY{i:Nat}{tab:LTab}{t:TA}{q:Ql}{α:Env->Option (List D)}(h:VA G ow t q α) :
 VE G ow (Zgw i (tab.map λx=>(G.1.lm x.1,Vl G.1 x.2.1 x.2.2)) t) q.cq (Jr i tab α):=λH0 av A σ H δ E d e Q k=>by
 unfold Jr at e
 split at e
 · rename_i j xs ds hi ha
   split at e
   · rename_i k0 n m hf
     split at e
     · rename_i hz
       obtain⟨z1,z2,z3⟩:=hz;have hk:k0=j:=by simpa using List.find?_some hf
       subst hk;obtain⟨v,hv,k1,k2⟩:=E.var i _ hi
       have hA:A i=none:=by
        cases hA:A i with
        |none=>rfl
        |some a=>exact(k2 a hA).2.elim
       have rv:=k1 hA;unfold Rep at rv;obtain⟨p,cl,vs,e1,n1,n2,L,rl⟩:=rv;subst e1;obtain⟨pm,c,ct,hp⟩:=id L.fn;refine⟨p,_,_,_,hv,hp,rfl,h H0 av A σ H δ E ds ha _ λus H1 s1 r1 => ?_⟩;have E1:=E.mono s1;have L1:LamAt H1 p (G.1.lm k0) cl vs:=L.ext (s1 p) λq _=>s1 q.2
       have hc:=L1.stl
       have fin:∀H',Same (drp H1 (cells cl)) H'->(∀c∈cells cl,H' c=none)->Same H (put H1 H' (cells cl))/\Same H' (put H1 H' (cells cl)):=λH' sm hn=>by
        refine⟨λb o eb => ?_,λb o eb => ?_⟩
        · by_cases hb:b∈cells cl
          · rw [Zd9 hb];exact s1 b o eb
          · rw [V3 hb]
            exact sm b o (by rw [QD hb];exact s1 b o eb)
        · rw [V3 λhb=>by rw [hn b hb]at eb;cases eb]
          exact eb
       have go:∀av':Addr->Prop,(∀a,av' a->AV av A a)->RepL G.1 av' H1 ds us->(∀v H',Same H H'->Rep G.1 av' H' d v->Q v H')->Vl G.1 n m vs us (drp H1 (cells cl)) (λv H'=>(∀c∈cells cl,H' c=none)->Q v (put H1 H' (cells cl))) E0:=λav' hw rd kk=>by
        refine⟨av',ds,xs,d,λa za zb => ?_,RepL.drp hc z2 rd,z1,RepL.drp hc z3 ((rl.same s1).av λb z => .inl (hw b z)),e,λv H' sm r hn => ?_⟩
        · have hb : a ∉ cells cl := fun hb => by
           obtain⟨q,hq,rfl⟩:=List.mem_map.mp hb;exact n2 q hq (hw _ za)
          rw [QD hb]at zb;exact E1.avl a (hw a za) zb
        · obtain⟨f1,f2⟩:=fin H' sm hn
          exact kk v _ f1 (r.same f2)
       refine⟨(G.1.lm k0,Vl G.1 n m),List.mem_map.mpr ⟨(k0,n,m),List.mem_of_find?_eq_some hf,rfl⟩,cl,vs,L1,?_⟩;cases q with
       |cl=>exact go (AV av A) (λa z=>z) r1.cl λv H' sm r=>k v H' sm r.t
       |tp=>exact go av (λa z => .inl z) r1.any λv H' sm r=>k v H' sm r.t
       |dt=>exact go av (λa z => .inl z) r1.any λv H' sm r=>k v H' sm r.t
     · cases e
   · cases e
 · cases e
end
end DL
namespace L2
open PySem PySem.Spec PyProof.Rows
abbrev mkK(kvs:List (Str×Value)):List (Key×Value):=kvs.map λq=>(Sum.inr q.1,q.2)
structure MkD(P:Program)(w:World)(K:PySem.W.Frag)(a:Addr)(kvs:List (Str×Value)):Prop where
 dict:∀h,K.In h->h.DictOf (Qh P w) a (mkK kvs)
 nsys:(a == sysModules)=false
theorem MkD.of {P:Program} {w:World} {K:PySem.W.Frag} {a:Addr} {n:Nat} {kvs:List (Str×Value)} {ts:List Nat} (h:K.lookup a=some ⟨.type "dict",none,.dict ((kvs.zip ts).map λq=>⟨PyData.keyHash w.params q.1.1,.str q.1.1 q.2,q.1.2⟩:List DictEntry).toArray n,#[]⟩) (hl:ts.length=kvs.length)
 (nd:(kvs.map (·.1)).Nodup) (ns:(a == sysModules)=false):MkD P w K a kvs:=by
 refine⟨λhp M=>⟨_,_,n,M _ _ h,⟨rfl,rfl,rfl⟩,rfl,λe he => ?_,?_,?_⟩,ns⟩
 · have he:e∈(kvs.zip ts).map λq=>(⟨PyData.keyHash w.params q.1.1,.str q.1.1 q.2,q.1.2⟩:DictEntry):=by simpa using he
   obtain⟨q,_,rfl⟩:=List.mem_map.mp he;exact⟨.inr q.1.1,Zax P w q.1.1 q.2,rfl⟩
 · show Pairs _ ((kvs.zip ts).map λq=>(⟨PyData.keyHash w.params q.1.1,.str q.1.1 q.2,q.1.2⟩:DictEntry)) (mkK kvs)
   have go:∀(l:List (Str×Value))(ts:List Nat),ts.length=l.length->Pairs (Qh P w) ((l.zip ts).map λq=>(⟨PyData.keyHash w.params q.1.1,.str q.1.1 q.2,q.1.2⟩:DictEntry)) (mkK l):=by
    intro l
    induction l with
    |nil=>intro ts _;exact .nil
    |cons q l ih=>
     intro ts hl;cases ts with
     |nil=>cases hl
     |cons t ts=>exact .cons (Zax P w q.1 t) rfl (ih ts (by simpa using hl))
   exact go kvs ts hl
 · rw [List.map_map]
   have e:(Prod.fst∘λq:Str×Value=>((Sum.inr q.1:Key),q.2))=λq=>Sum.inr q.1:=rfl
   rw [e];have:(kvs.map λq=>(Sum.inr q.1:Key))=(kvs.map (·.1)).map Sum.inr:=by rw [List.map_map];rfl
   rw [this];exact List.Pairwise.map _ (λa b h z=>h (Sum.inr.inj z)) nd
section
variable{X:Cx}{i o:Expr}{pos:Pos}{ty:TE}{kvs:List (Str×Value)}{a:Addr}
theorem Zez{z:Str}{u:Value}(r:RelV (.str z) u):(Qh X.prog X.w).is (.inr z) u=true:=by
 obtain⟨t,rfl⟩:=r;exact Zax _ _ z t
def Zgx(kvs:List (Str×Value))(ty:TE):TE:=λσ H Q=>ty σ H λy H1=>∃z,y = .str z/\Q (.bl (!(valueAt (mkK kvs) (.inr z)).isSome)) H1
def Zgy(kvs:List (Str×Value))(ty:TE):TE:=λσ H Q=>ty σ H λy H1=>∃z f,y = .str z/\valueAt (mkK kvs) (.inr z)=some (.ref f)/\Q (.ref f) H1
theorem ZfZ {g:Str} {pg:Pos} (M:MkD X.prog X.w X.K a kvs) (hi:PE X i ty) (hg:Gl X g) (hm:X.mg g=some (.ref a)) (hd:(g == ("__debug__" : Str))=false:=by decide):PC X .NotIn i (.Name g pg) (Zgx kvs ty):=by
 intro pins s σ H Q I h;refine thn (hi pins s σ H _ I h) λiv s1 ⟨y,H1,I1,ry,z,ey,q1⟩=>Ud I1 hg hm ?_ hd
 subst ey;have dd:=M.dict _ I1.kIn;refine wpAny_notIn_of (Zez ry) M.nsys dd.mapOf ?_;exact⟨.bl _,H1,I1.tok _,rfl,q1⟩
theorem Zf0 {g:Str} {pg:Pos} (M:MkD X.prog X.w X.K a kvs) (hi:PE X i ty) (hg:Gl X g) (hm:X.mg g=some (.ref a)) (hs:Zl5 i) (hd:(g == ("__debug__" : Str))=false:=by decide):PE X (.Subscript (.Name g pg) i pos) (Zgy kvs ty):=by
 intro pins s σ H Q I h;refine Zhl PySem.F.slot_dict_getitem.lookup hs (Ud I hg hm (thn (hi pins s σ H _ I h) λiv s2 ⟨y,H2,I2,ry,z,f,ey,g,q2⟩ => ?_) hd);subst ey;have dd:=M.dict _ I2.kIn;obtain⟨ob,es,ep,h1,h2,_⟩:=id dd;exact⟨⟨ob,h1,h2.1⟩,wpAny_getItem_of (Zez ry) dd.mapOf g ⟨.ref f,H2,I2.tok _,rfl,q2⟩⟩
def Zgz(i:Nat)(fs:List (Addr×Sp))(t:TA):TE:=λσ H Q=>∃q∈fs,σ[i]? = some (some (.ref q.1))/\t σ H λvs H1=>q.2 vs H1 Q E0
theorem Zf1 {i k:Nat} {x:Str} {fs:List (Addr×Sp)} {pn pos:Pos} {e:Expr} {es:List Expr} {t:TA} (F:∀q∈fs,∃fd ps,FnOk X.prog X.w X.K X.mg X.base CX0 k q.1 fd ps q.2/\Binds X.K fd ps []/\∃oc od osl,X.K.lookup q.1=some ⟨oc,od,.func fd,osl⟩) (hr:Room k X.A)
 (hN:X.N[i]? = some x) (hv:Vis X.env.scope x) (ha:PA X (e::es) t)
 (hd:(x == ("__debug__" : Str))=false:=by decide) (hcd:(x == ("__classdict__" : Str))=false:=by decide)
 (he:starEach (e::es) X.env=(false,eval e X.env)::starEach es X.env:=by rfl) (hpl:(backTo pos (starEach es X.env)).any (·.1)=false:=by rfl) :
 PE X (.Call (.Name x pn) (e::es) [] pos) (Zgz i fs t):=by
 intro pins s σ H Q I h;obtain⟨q,hq,h0,h⟩:=h;obtain⟨fd,ps,F,hb,oc,od,osl,lk⟩:=F q hq;have fa:∀{σ:St}{H:Hp}{s:Shared},Inv X pins σ H s->PySem.W.FnAt q.1 s.heap:=λ{σ H s} J=>⟨oc,od,fd,osl,J.kIn _ _ lk⟩
 refine wpAny_Call_Name_kw (thn (Zd2 hN hv hd hcd pins s σ H (λv H'=>v = .ref q.1/\H'=H) I ⟨_,h0,rfl,rfl⟩) λu s1 ⟨v,H1,I1,rv,e1,e2⟩ => ?_);subst e1 e2;cases rv;refine PySem.W.callWith_F (fa I1) (thn (ha pos pins s1 σ _ _ I1 h) λus s2 ⟨vs,H2,I2,r,q⟩=>⟨fa I2,?_⟩) he hpl;exact ZcY (dvs:=[]) F hr hb .nil Zv I2 r (by rw [List.append_nil];exact q)
end
end L2
namespace DL
open PySem PySem.Spec L2
section
variable{cA:Kn}{G:Cn}{ow owN owB owC:List Nat}{H0:Hp}{av:Addr->Prop}{A:Nat->Option Addr}{σ:L2.St}{H:Hp}{δ:Env}
theorem ZgA{q:Ql}{cs:List Nat}{v:V}(h:RepQ cA av A H q (.str cs) v):v = .str (tx cs):=by
 cases q<;>exact h
abbrev MkTab:=List (List Nat×Nat×(List D->Option D))
abbrev UA(tab:MkTab)(as:List Addr):List (Str×Value):=(tab.zip as).map λq=>(tx q.1.1,.ref q.2)
abbrev Js(cA:Kn)(tab:MkTab)(as:List Addr):List (Addr×Sp):=(tab.zip as).map λq=>(q.2,spD cA q.1.2.1 q.1.2.2)
theorem ZcF(cs:List Nat):∀(tab:MkTab)(as:List Addr),as.length=tab.length ->
 (match tab.find? (·.1 == cs)with
 |some x=>∃f,valueAt (mkK (UA tab as)) (.inr (tx cs))=some (.ref f)/\(f,spD cA x.2.1 x.2.2)∈Js cA tab as
 |none=>valueAt (mkK (UA tab as)) (.inr (tx cs))=none)
 | [],_,_=>rfl
 |x::tab,[],h=>by cases h
 |x::tab,a::as,h=>by
  have ih:=ZcF cs tab as (by simpa using h)
  by_cases hx:x.1=cs
  · subst hx
    rw [List.find?_cons_of_pos (by simp)];refine⟨a,?_,List.mem_cons_self⟩;show(List.find? _ ((Sum.inr (tx x.1),Value.ref a)::_)).map _=_;rw [List.find?_cons_of_pos (by simp)];rfl
  · rw [List.find?_cons_of_neg (by simpa using hx)]
    have e:valueAt (mkK (UA (x::tab) (a::as))) (.inr (tx cs))=valueAt (mkK (UA tab as)) (.inr (tx cs)):=by
     show(List.find? _ ((Sum.inr (tx x.1),Value.ref a)::_)).map _=_
     rw [List.find?_cons_of_neg (by
      have:¬tx x.1=tx cs:=λz=>hx (tx_inj.mp z)
      simpa using this)]
     rfl
    rw [e];cases hf:tab.find? (·.1 == cs)with
    |none=>rw [hf]at ih;exact ih
    |some y=>
     rw [hf]at ih;obtain⟨f,h1,h2⟩:=ih;exact⟨f,h1,List.mem_cons_of_mem _ h2⟩
def Jt(tab:MkTab)(ε:Env->Option D)(δ:Env):Option D:=match ε δ with
 |some (.str cs)=>some (.bl (!(tab.find? (·.1 == cs)).isSome))
 |_=>none
theorem Zf2{tab:MkTab}{as:List Addr}{ty:TE}{q:Ql}{ε:Env->Option D}(hl:as.length=tab.length)(h:VE G ow ty q ε):VE G ow (Zgx (UA tab as) ty) .cl (Jt tab ε):=λH0 av A σ H δ E d e Q k=>by
 unfold Jt at e
 split at e
 · rename_i cs hx
   cases e;refine h H0 av A σ H δ E _ hx _ λv H1 s1 r1=>⟨tx cs,ZgA r1,k _ H1 s1 ?_⟩
   have m:=ZcF (cA:=G.1) cs tab as hl
   have e:(valueAt (mkK (UA tab as)) (.inr (tx cs))).isSome=(tab.find? (·.1 == cs)).isSome:=by
    cases hf:tab.find? (·.1 == cs)with
    |none=>rw [hf]at m;rw [m];rfl
    |some y=>rw [hf]at m;obtain⟨f,h1,_⟩:=m;rw [h1];rfl
   rw [e];rfl
 · cases e
def sMk(i:Nat)(tab:MkTab)(ε:Env->Option D)(α:Env->Option (List D))(δ:Env):Option Out:=match ε δ with
 |some (.str cs)=>match tab.find? (·.1 == cs),α (δ.set i none)with
  |some x,some ds=>if i<δ.length/\ds.length=x.2.1 then(x.2.2 ds).map Out.rt else none
  |_,_=>none
 |_=>none
theorem ZkG{i:Nat}{tab:MkTab}{as:List Addr}{ty:TE}{q qa:Ql}{ε:Env->Option D}{t:TA}{α:Env->Option (List D)}(hl:as.length=tab.length)(h:VE G ow ty q ε)(ha:VA G ow t qa α)(hi:ow.contains i=false)(hG:G.2 i=none) :
 VS G ow owN owB owC (J5 (Qi (Zgy (UA tab as) ty) (Uw i)) (J6 (Zgz i (Js G.1 tab as) t))) (sMk i tab ε α):=λH0 av A σ H δ E o e De k=>by
 unfold sMk at e
 split at e
 · rename_i cs hx
   split at e
   · rename_i x ds hf hds
     split at e
     · rename_i hz
       cases hm:x.2.2 ds with
       |none=>rw [hm]at e;cases e
       |some d=>
        rw [hm]at e;cases e;have m:=ZcF (cA:=G.1) cs tab as hl;rw [hf]at m;obtain⟨f,h1,h2⟩:=m;refine h H0 av A σ H δ E _ hx _ λv H1 s1 r1=>⟨tx cs,f,ZgA r1,h1,?_⟩
        have E1:=(E.mono s1).none (x:=some (.ref f)) hi hG;refine⟨_,h2,?_,ha H0 av A _ H1 _ E1 ds hds _ λvs H2 s2 r2 => ?_⟩
        · rw [List.getElem?_set_self (by rw [E.len];exact hz.1)]
        · exact⟨av,ds,d,(E1.mono s2).avH,r2.any,hz.2,hm,λv H' s' r'=>k v H' ((E1.mono s2).same.trans s') r'⟩
     · cases e
   · cases e
 · cases e
end
end DL
namespace L2
open PySem PySem.Spec PyProof.Rows
end L2
namespace DL
open PySem PySem.Spec L2
section
variable{cA:Kn}{G:Cn}{ow owN owB owC:List Nat}
def ins{α:Type}(j:Nat)(x:α)(l:List α):List α:=l.take j++x::l.drop j
end
end DL
namespace DL
open PySem PySem.Spec L2
section
variable{G:Cn}{ow owN owB owC:List Nat}
end
end DL
namespace L2
open PySem PySem.Spec PyProof.Rows
end L2
namespace DL
open PySem PySem.Spec L2
section
variable{P:Program}{w:World}{K:PySem.W.Frag}{mg:Str->Option Value}{base:Heap}{cA:Kn}
end
end DL
namespace DL
open PySem PySem.Spec L2
section
variable{P:Program}{w:World}{K:PySem.W.Frag}{mg:Str->Option Value}{base:Heap}{cA:Kn}
end
end DL
namespace L2
open PySem PySem.Spec PyProof.Rows
theorem Ju {K:PySem.W.Frag} {mg:Str->Option Value} {h:Heap} {c P bm:Addr} {od:Option Addr} {vs:Array Value} {sl sl2:Array (Option Value)} {file:Str} {flags text:Int} {inF:Bool} {tf tg tt:Tok} (X:K.In h) (G:h.Ns mainGlobals mg)
 (e1:K.lookup c=some ⟨.type "code",od,.fields vs,sl⟩) (e2:vs[11]? = some (.ref P)) (e3:vs[18]? = some (.str file tf)) (e4:vs[7]? = some (.int flags tg)) (e5:vs[9]? = some (.bool inF)) (e6:vs[10]? = some (.int text tt)) (hne:c≠P)
 (b1:nsIn K mainGlobals "__builtins__" = some (some (.ref bm))) (b2:K.lookup bm=some ⟨.type "module",some builtinsNs,.plain,sl2⟩) (b3:bm≠builtinsNs):NestK K mg c P:=by
 have g:∀{i:Nat}{v:Value},vs[i]? = some v->vs.getD i .none=v:=λ{i v} e=>by
  rw [Array.getD_eq_getD_getElem?,e];rfl
 exact⟨⟨_,vs,file,tf,flags,tg,inF,text,tt,e1,rfl,rfl,e2,g e2,g e3,g e4,g e5,g e6,hne⟩,bm,_,mg_of X G b1,b3,b2,rfl,rfl,rfl⟩
end L2
namespace L2
open PySem PySem.Spec PySem.W PyProof.Rows
theorem Zcv{e:Value}{a b:Env}(h:a.frame=b.frame):noteFrame e a=noteFrame e b:=by
 unfold PySem.noteFrame PySem.frameOf;rw [h]
theorem Zao{h h' base base':Heap}:∀{l:List Env},h.FunFrames base l->(∀b o,h.get? b=some o->(∀vs,o.data ≠ .fields vs)->base.get? b=none->base'.get? b=none/\h'.get? b=some o)->h'.FunFrames base' l
 | [],_,_=>trivial
 |e::l,hf,k=>by
  obtain⟨h1,⟨L,o,e1,e2,e3,e4⟩,h3⟩:=hf;obtain⟨k1,k2⟩:=k L o e3 e4 e2;exact⟨h1,⟨L,o,e1,k1,k2,e4⟩,Zao h3 k⟩
theorem Zfb{o:Obj}{vs:Array Value}(h:o.data = .fields vs)(f:Array Value->Array Value):(Obj.mapFields f o)={ o with data := .fields (f vs) }:=by
 obtain⟨c,d,dt,sl⟩:=o;cases(show dt=_ from h);rfl
theorem Zdr{h base:Heap}{l:List Env}{e:Addr}{cls a0 fl:Value}(x:Value)(hs:base.StaysIn h)(hf:h.FunFrames base l)(ht:h.TracedAtW base e cls a0 fl)(he:base.get? e=none) :
 ∃T oe vs oT ts,h.get? e=some oe/\oe.data = .fields vs/\oe.cls=cls/\vs[0]? = some a0/\vs[1]? = some (.ref T)/\h.get? T=some oT/\oT.data = .fields ts/\ts[3]? = some fl/\3<ts.size /\
  base.StaysIn (h.update T (Obj.mapFields λy=>y.setIfInBounds 3 x))/\(h.update T (Obj.mapFields λy=>y.setIfInBounds 3 x)).FunFrames base l/\(h.update T (Obj.mapFields λy=>y.setIfInBounds 3 x)).TracedAtW base e cls a0 x /\
  (∀b o,h.get? b=some o->(∀vs,o.data ≠ .fields vs)->(h.update T (Obj.mapFields λy=>y.setIfInBounds 3 x)).get? b=some o):=by
 obtain⟨oe,vs,T,oT,ts,h1,⟨h2,h3⟩,h4,h5,h6,h7,h8,h9,h10⟩:=ht
 have hz:3<ts.size:=by
  rcases Nat.lt_or_ge 3 ts.size with z|z
  · exact z
  · rw [Array.getElem?_eq_none z]at h10;cases h10
 have hm:=Zfb h9 (λy=>y.setIfInBounds 3 x)
 have hT:(h.update T (Obj.mapFields λy=>y.setIfInBounds 3 x)).get? T=some { oT with data := .fields (ts.setIfInBounds 3 x) }:=by
  rw [<-hm];exact Heap.get?_update_self _ h8 (by rw [hm];rfl)
 have ho:∀b,b≠T->(h.update T (Obj.mapFields λy=>y.setIfInBounds 3 x)).get? b=h.get? b:=λb hb=>Heap.get?_update_ne _ _ _ _ hb
 have hn:∀b o,h.get? b=some o->(∀vs,o.data ≠ .fields vs)->(h.update T (Obj.mapFields λy=>y.setIfInBounds 3 x)).get? b=some o:=λb o q n=>by
  rw [ho b ?_]
  · exact q
  · rintro rfl
    rw [h8]at q;cases q;exact n _ h9
 refine⟨T,oe,vs,oT,ts,h1,h4,h2,h3,h5,h8,h9,h10,hz,λb o q => ?_,Zao hf λb o q n z=>⟨z,hn b o q n⟩,?_,hn⟩
 · rw [ho b ?_]
   · exact hs b o q
   · rintro rfl
     rw [h6]at q;cases q
 · exact⟨oe,vs,T,_,ts.setIfInBounds 3 x,by rw [ho e (Ne.symm h7)];exact h1,⟨h2,h3⟩,h4,h5,h6,h7,hT,rfl,by rw [Array.getElem?_setIfInBounds_self_of_lt hz]⟩
theorem ZdW {M:Model} {A:Around} {E:Value->Shared->Prop} {s:Shared} {base:Heap} {env:Env} {outer:List Env} {L e:Addr} {cls a0 fl:Value} {Q:Unit->Shared->Prop} (hA:A.frames=some (env::outer)) (hL:env.frame=some L)
 (hs:base.StaysIn s.heap) (he:base.get? e=none) (hf:s.heap.FunFrames base (env::outer)) (ht:s.heap.TracedAtW base e cls a0 fl)
 (k:∀h',base.FlyingW outer e cls a0 h'->s.heap.UpToSlots h'->Q () { s with heap:=h' }):wpAny M A (leaving env (.ref e)) Q E s:=by
 obtain⟨T,oe,vs,oT,ts,h1,h2,h3,h4,h5,h6,h7,h8,hz,r1,r2,r3,r4⟩:=Zdr (x:=.none) hs hf ht he;have fin:∀h',base.StaysIn h'->h'.FunFrames base (env::outer)->h'.TracedW base e cls a0->s.heap.UpToSlots h'->Q () { s with heap:=h' }:=λh' x1 x2 x3 x4=>k h' ⟨x1,he,x2.2.2,x3⟩ x4
 unfold leaving noteFrame;rw [hL];dsimp only;refine wpAny_bind (wpAny_bind (wpAny_field h1 h2 h5 ?_));rw [if_pos (show((Value.ref T) != Value.none)=true from rfl)];refine wpAny_bind (wpAny_field h6 h7 h8 ?_)
 by_cases hb:(fl == rawInt (L:Int))=true
 · rw [if_pos hb]
   refine wpAny_pure ?_;refine wpAny_setFlight_noneW hs hf ht λh' x1 x2 x3 x4=>fin h' x1 x2 x3 λb o q n=>⟨o.slots,x4 b o q n⟩
 · rw [if_neg hb]
   refine wpAny_bind (wpAny_setField h6 h7 hz ?_);obtain⟨oe',vs',T',oT',ts',g1,⟨g2,g3⟩,g4,g5,g6,g7,g8,g9,g10⟩:=r3;refine wpAny_newEntryW (base:=base) (outer:=outer) hA r2 hL g1 r1 he g4 ?_ g3 λh' x => ?_
   · rcases Nat.lt_or_ge 1 vs'.size with z|z
     · exact z
     · rw [Array.getElem?_eq_none z]at g5;cases g5
   · obtain⟨x1,x2,x3,x4⟩:=x
     rw [g2]at x3;refine fin h' x1 x2 x3 λb o q n => ?_
     obtain⟨sl,q2⟩:=x4 b o (r4 b o q n) n;exact⟨sl,q2⟩
end L2
namespace L2
open PySem PySem.Spec PySem.W PyProof.Rows
def Zmk(X:Cx)(E:XK)(ev:Value)(s':Shared):Prop:=∃(ea:Addr) (cls a0 fl:Value) (B:Heap) (H':Hp),ev = .ref ea/\s'.os=X.s₀.os/\AllBare s'.gens/\B.StaysIn s'.heap/\B.get? ea=none/\s'.heap.FunFrames B X.stack/\s'.heap.TracedAtW B ea cls a0 fl /\
 (∀b o,X.s₀.heap.get? b=some o->X.H₀ b=none->b∉X.fs->B.get? b=some o)/\HOk X.prog X.w H' B/\(∀b o,X.s₀.heap.get? b=some o->X.H₀ b=none->H' b=none)/\(∀b o,X.s₀.heap.get? b=some o->b∈X.fs->∃sl,s'.heap.get? b=some { o with slots:=sl })/\E cls none H'
structure PassN(X:Cx)(E:XK):Prop where
 st:X.stack=X.env::X.outer
 fr:X.env.frame=some X.env.locals
 ex:X.ex=[]
 go:∀ev s',X.Ok->Zmk X E ev s'->X.xe ev s'
section
variable{P:Program}{w:World}{K:PySem.W.Frag}{mg:Str->Option Value}{base:Heap}{N:List Str}{qual:Str}{scope:Scope}{f:Addr}{cd:Value}{A:Around}{outer:List Env}{s:Shared}{H:Hp}{E:XK}
theorem Zcw:PassN (YK (CX1 P w) P w K mg base N qual scope f cd A outer s H E) (λc d H'=>Same H H'/\E c d H'):=by
 refine⟨rfl,rfl,rfl,?_⟩;intro ev s' ok ⟨ea,cls,a0,fl,B,H2,e,hos,hb,x1,x2,x3,x4,hKB,hok,hfree,hup,hS,hE⟩;subst e;show wpAny (model P w) _ (leaving _ (.ref ea)) _ _ _;refine ZdW (outer:=outer) ok.frames rfl x1 x2 x3 x4 λh2 y1 y2 => ?_
 refine⟨ea,cls,a0,B,H2,rfl,hos,hb,y1,hKB,hok,hS,hfree,λb o q hn => ?_,hE⟩;obtain⟨sl',q3⟩:=hup b o q hn;obtain⟨_,o',q2,hnf⟩:=ok.funs.mem hn;have:o'=o:=Option.some.inj (q2.symm.trans q);subst this;obtain⟨sl2,q4⟩:=y2 b _ q3 (show ∀vs,({ cls:=o'.cls,dict:=o'.dict,data:=o'.data,slots:=sl' }:Obj).data ≠ .fields vs from hnf);exact⟨sl2,q4⟩
end
def Zj2(X:Cx)(E:XK)(C:Addr)(ev:Value)(s':Shared):Prop:=∃(ea:Addr) (cls a0:Value) (B:Heap) (H':Hp),ev = .ref ea/\s'.os=X.s₀.os/\AllBare s'.gens/\B.FlyingW X.stack ea cls a0 s'.heap/\(∃m,B.Ns C m)/\H' C=none /\
 (∀b o,X.s₀.heap.get? b=some o->X.H₀ b=none->b∉X.fs->B.get? b=some o)/\HOk X.prog X.w H' B/\(∀b o,X.s₀.heap.get? b=some o->X.H₀ b=none->H' b=none)/\(∀b o,X.s₀.heap.get? b=some o->b∈X.fs->∃sl,s'.heap.get? b=some { o with slots:=sl })/\E cls none H'
section
variable{X:Cx}{E:XK}{pins:List (Addr×Obj)}{σ:St}{H₂:Hp}{s₂:Shared}{scope:Scope}{N':List Str}{C:Addr}{fp:List Addr}
theorem ZcT(hp:PassN X E)(I2:Inv X pins σ H₂ s₂)(f2:∀b∈fp,XV X pins H₂ b)(hC:s₂.heap.objs.size<=C):VW (CX1 X.prog X.w) (Xl X scope N' C s₂ H₂ fp (Zj2 X E C)) E:=by
 intro pins' σ' H s ev s' I ⟨ea,cls,a0,B,H',e,hos,hb,hfl,hKB,hok,hsame,hfree,hup,hE⟩
 have hz:∀b o,X.s₀.heap.get? b=some o->b∉fp:=λb o q z=>by
  obtain⟨_,_,_,h3,_⟩:=f2 b z;rcases h3 with h3|h3
  · rw [hp.ex]at h3;cases h3
  · exact absurd (Heap.lt_size q) (Nat.not_lt.mpr h3)
 have hn0:∀b,b∉X.ex:=λb z=>by rw [hp.ex]at z;cases z
 have hnl:∀b o,X.s₀.heap.get? b=some o->b∉X.fs->b∉frs X.stack:=λb o q n z=>by
  rcases List.mem_cons.mp (I2.stkSub b z)with e'|z
  · exact absurd (Heap.lt_size q) (Nat.not_lt.mpr (by rw [e'];exact I2.ok.above))
  · exact n z
 have hin:∀b,b∈X.fs->b∈frs X.stack:=λb z=>by
  rw [hp.st];show b∈(X.env::X.outer).filterMap (·.frame);rw [List.filterMap_cons,hp.fr];exact List.mem_cons_of_mem _ z
 have hCs:∀b∈frs X.stack,b≠C:=λb z e=>by
  obtain⟨_,o,q,_⟩:=I.ok.funs.mem z;exact absurd (Heap.lt_size q) (Nat.not_lt.mpr (e▸hC))
 obtain⟨m,hm,_⟩:=id I.loc;obtain⟨oC,es,ep,c1,c2,c3,c4⟩:=id hm;have cB:B.get? C=some oC:=hKB C oC c1 I.free λz=>hCs C z rfl
 refine⟨ea,cls,a0,B,H',e,hos.trans (I.os.trans I2.os),hb,hfl,⟨m,oC,es,ep,cB,c2,c3,c4⟩,hfree C oC c1 I.free,λb o q n hn => ?_,hok,λb o q n => ?_,λb o q hn => ?_,hE⟩
 · have k2:=I2.base.keep b o q n hn (hn0 b)
   have n2:=I2.base.free b o q n (hn0 b);have k3:=I.base.keep b o k2 n2 (hnl b o q hn) (hz b o q);exact hKB b o k3 (I.base.free b o k2 n2 (hz b o q)) (hnl b o q hn)
 · obtain⟨sl,k2⟩:=I2.base.any q n (hn0 b)
   have n2:=I2.base.free b o q n (hn0 b);obtain⟨sl3,k3⟩:=I.base.any k2 n2 (hz b o q);exact hfree b _ k3 (I.base.free b _ k2 n2 (hz b o q))
 · have n0:=I2.ok.frf b hn
   obtain⟨sl,k2⟩:=I2.base.slot b o q n0 hn (hn0 b);have n2:=I2.base.free b o q n0 (hn0 b);obtain⟨sl3,k3⟩:=I.base.slot b _ k2 n2 (hin b hn) (hz b o q);obtain⟨sl4,k4⟩:=hup b _ k3 (hin b hn);exact⟨sl4,k4⟩
theorem ZdX(hp:PassN X E)(ok:X.Ok)(hC:X.s₀.heap.objs.size<=C){use:Option (Value->Sem Unit)}{Q:Value->Shared->Prop}{acc:Value}{e:Value}{s:Shared}{xe:Value->Shared->Prop}(h:Zj2 X E C e s) :
 notedBy (model X.prog X.w) X.A (Xl X scope N' C s₂ H₂ fp xe).env (λe s'=>compPost (model X.prog X.w) X.A X.xe use Q acc C (.error e) s') e s:=by
 obtain⟨ea,cls,a0,B,H',rfl,hos,hb,hfl,⟨m,hm⟩,hCn,hKB,hok,hfree,hup,hE⟩:=h;unfold notedBy;rw [Zcv (a:=(Xl X scope N' C s₂ H₂ fp xe).env) (b:=X.env) rfl];rw [hp.st]at hfl;refine wpAny_looks_onW (outer:=X.outer) (by rw [ok.frames,hp.st]) hp.fr hfl λh1 ⟨x1,x2,x3,x4⟩ up => ?_
 refine⟨m,hm.keeps x1,λh' hs' cenv hce => ?_⟩;obtain⟨oC,es,ep,c1,c2,c3,c4⟩:=id hm;have cn:∀b,B.get? b=none->b≠C:=λb q z=>by rw [z,c1]at q;cases q
 have s':∀b,b≠C->h'.get? b=h1.get? b:=hs'.2;obtain⟨oe,vs,T,oT,ts,t1,⟨t2,t3⟩,t4,t5,t6,t7,t8,t9,t10⟩:=id x4
 have y1:(hideAll B [C]).StaysIn h':=λb o q=>by
  have qB:=of_hideAll _ q
  by_cases z:b=C
  · subst z
    have:(hideAll B [b]).get? b=none:=hideAll_none _ List.mem_cons_self;rw [this]at q;cases q
  · rw [s' b z];exact x1 b o qB
 have hid:∀b,B.get? b=none->(hideAll B [C]).get? b=none:=λb q=>by
  cases z:(hideAll B [C]).get? b with
  |none=>rfl
  |some o=>rw [of_hideAll _ z]at q;cases q
 have y3:h'.FunFrames (hideAll B [C]) X.stack:=by
  rw [hp.st];exact Zao x3 λb o q n z=>⟨hid b z,by rw [s' b (cn b z)];exact q⟩
 have y4:h'.TracedAtW (hideAll B [C]) ea cls a0 (rawInt (X.env.locals:Int)):=⟨oe,vs,T,oT,ts,by rw [s' ea (cn ea x2)];exact t1,⟨t2,t3⟩,t4,t5,hid T t6,t7,by rw [s' T (cn T t6)];exact t8,t9,t10⟩
 obtain⟨T2,oe2,vs2,oT2,ts2,r1,r2,r3,r4,r5,r6,r7,r8,rz,z1,z2,z3,z4⟩:=Zdr (x:=(cenv.frame.elim .none λf=>rawInt (f:Int))) y1 y3 y4 (hid ea x2);unfold PySem.passOn;refine wpAny_bind (wpAny_field r1 r2 r5 ?_);rw [if_neg (show ¬((Value.ref T2) == Value.none)=true from Bool.false_ne_true)];refine wpAny_bind ?_;unfold setFlight;refine wpAny_bind (wpAny_field r1 r2 r5 ?_);rw [if_pos (show((Value.ref T2) != Value.none)=true from rfl)]
 refine wpAny_setField r6 r7 rz ?_;refine wpAny_throw ?_;refine hp.go _ _ ok ⟨ea,cls,a0,_,hideAll B [C],H',rfl,hos,hb,z1,hid ea x2,z2,z3,λb o q n hn => ?_,HOk.hide hok (λb hb=>by rw [List.mem_singleton.mp hb];exact hCn),hfree,λb o q hn => ?_,hE⟩
 · refine hideAll_get _ (hKB b o q n hn) λz => ?_
   rw [List.mem_singleton.mp z]at q;exact absurd (Heap.lt_size q) (Nat.not_lt.mpr hC)
 · obtain⟨sl,q1⟩:=hup b o q hn
   obtain⟨_,o',q2,hnf⟩:=ok.funs.mem hn;have:o'=o:=Option.some.inj (q2.symm.trans q);subst this;obtain⟨sl2,q3⟩:=up b _ q1 (show ∀vs,({ cls:=o'.cls,dict:=o'.dict,data:=o'.data,slots:=sl }:Obj).data ≠ .fields vs from hnf);refine⟨sl2,z4 b _ ?_ (show ∀vs,({ cls:=o'.cls,dict:=o'.dict,data:=o'.data,slots:=sl2 }:Obj).data ≠ .fields vs from hnf)⟩;rw [s' b ?_]
   · exact q3
   · rintro rfl
     exact absurd (Heap.lt_size q) (Nat.not_lt.mpr hC)
end
section
variable{X:Cx}{tg iter elt:Expr}{ifs:List Expr}{scope:Scope}{pos:Pos}{wi:TI}{g:TG}{tt:TT}{te:TE}{tn cn:List Str}{js:List Nat}{E:XK}
theorem Zf3 (hp:PassN X E) (hc:X.calm=true) (S:CompSd X scope tn cn js) (hi:PI X tg iter wi)
 (hg:∀C s₂ H₂ fp xe,PG (Xl X scope (tn++cn) C s₂ H₂ fp xe) tg g) (ht:∀C s₂ H₂ fp xe,PTs (Xl X scope (tn++cn) C s₂ H₂ fp xe) ifs tt) (he:∀C s₂ H₂ fp xe,VW (CX1 X.prog X.w) (Xl X scope (tn++cn) C s₂ H₂ fp xe) E->PE (Xl X scope (tn++cn) C s₂ H₂ fp xe) elt te)
 (hs:∀x,foldedSetIterable iter X.env x=pure x:=by intro _;rfl) :
 PE X (.ListComp elt [⟨tg,iter,ifs,0⟩] scope pos) (Q8 wi g tt te tn.length js):=by
 intro pins s σ H Q I h;rw [eval_ListComp];refine wpAny_comprehension_free (use:=none) (cl:=XD X.env.cells scope.names []) rfl hs (Zak (S.clos I.ok)) S.kind S.names (thn (hi pins s σ H _ I h) λv s1 h1=>thn h1 λitv s2 h2 => ?_);obtain⟨it,fp,tnx,J,H2,e,I2,T,st2,f2,W,⟨m0,w0⟩,turn⟩:=h2;subst e;refine Zaz (RR:=λacc C=>compPost (model X.prog X.w) X.A X.xe none (EP X pins σ Q) acc C) (W:=W) (m0:=m0) (xx:=Zj2 X E) hc S (λC=>hg C _ _ _ _) (λC=>ht C _ _ _ _) (λC hC=>he C _ _ _ _ (ZcT hp I2 f2 hC)) I2 T st2 f2 w0 (λC D e s hC z=>ZdX hp I2.ok (Nat.le_trans I2.sz hC) z) λi m ys H w => ?_
 rcases turn i m ys H w with⟨stop,qn⟩|r
 · refine .inl ⟨stop,λC D s its n σ' hC hD hDC hv hz I' => ?_⟩
   obtain⟨m',hn,_⟩:=id I'.loc;refine⟨m',hn,λh' hs' => ?_⟩;have pd:=I'.pin (D,{ cls := .type "list",data := .seq its.toArray n }) (List.mem_append_right _ List.mem_cons_self);exact⟨.ref D,_,Za8 S I2 hC hD hDC f2 I' hv hz hs',rfl,qn D pd.2.1⟩
 · exact .inr r
end
end L2
namespace DL
open PySem PySem.Spec L2
section
variable{cA:Kn}{G:Cn}{ow owB owC:List Nat}{E:XK}
def VC(γ:D->Env->Option Env)(τ:Env->Option Bool)(ε:Env->Option D)(χ:Env->Option String)(δ:Env):List D->Option String
 | []=>none
 |x::xs=>match γ x δ with
  |none=>none
  |some δ1=>match τ δ1 with
   |none=>none
   |some false=>VC γ τ ε χ δ xs
   |some true=>match χ δ1 with
    |some c=>some c
    |none=>match ε δ1 with
     |none=>none
     |some _=>VC γ τ ε χ δ xs
def Zfq(ι:Env->Option (List D))(γ:D->Env->Option Env)(τ:Env->Option Bool)(ε:Env->Option D)(χ:Env->Option String)(n:Nat)(js:List Nat)(δ:Env):Option String:=match ι δ with
 |none=>none
 |some xs=>if xs.length<=sizeLine then VC γ τ ε χ (Xs n δ js) xs else none
theorem Zf4 {wi:TI} {g:TG} {tt:TT} {te:TE} {n:Nat} {js:List Nat} {ι:Env->Option (List D)} {γ:D->Env->Option Env} {τ:Env->Option Bool} {ε:Env->Option D} {χ:Env->Option String}
 (hjs:js.all (λj => !ow.contains j)=true) (hi:VI G ow wi ι) (hg:VG ⟨G.1,λ_=>none⟩ [] [] g γ) (ht:VT ⟨G.1,λ_=>none⟩ [] tt τ) (he:VE ⟨G.1,λ_=>none⟩ [] te .cl ε) (hx:VXe ⟨G.1,λ_=>none⟩ [] E te χ):VXe G ow E (Q8 wi g tt te n js) (Zfq ι γ τ ε χ n js):=λH0 av A σ H δ R c e k Q=>by
 unfold Zfq at e;cases hι:ι δ with
 |none=>rw [hι]at e;cases e
 |some xs=>
  rw [hι]at e;dsimp only at e
  by_cases hz:xs.length<=sizeLine
  · rw [if_pos hz]at e
    refine hi H0 av A σ H δ R xs hι _ λJ H1 s1 W => ?_
    have E1:=R.mono s1
    refine⟨λi m ys H'=>m=xs.length-i/\i<=xs.length/\Same H1 H'/\ys.length<=i/\VC γ τ ε χ (Xs n δ js) (xs.drop i)=some c,
     ⟨xs.length,by simp,Nat.zero_le _,Same.refl _,Nat.le_refl _,e⟩,?_⟩
    rintro i m ys H' ⟨rfl,hle,s',hy,hr⟩
    have E':=E1.mono s';have sc:Same (DL.cut A H1) H':=λb o z=>s' b o (ZbM z).1
    obtain⟨w1,w2,w3⟩:=W H' sc
    by_cases hlt:i<xs.length
    · refine .inr ⟨w1 i hlt,λv H2 y => ?_⟩
      have hxi:xs[i]? = some xs[i]:=List.getElem?_eq_getElem hlt;obtain⟨s2,rep⟩:=w2 i _ v H2 hxi y;have rep':Rep G.1 (AV av A) H2 xs[i] v:=rep _ E'.avl λb z => .inl z
      have E2:=E'.mono s2;have EB:ER ⟨G.1,λ_=>none⟩ [] H2 (AV av A) (λ_=>none) (L2.blk n σ js) H2 (Xs n δ js):=E2.blk n js hjs;rw [List.drop_eq_getElem_cons hlt]at hr;unfold VC at hr;cases hγ:γ xs[i] (Xs n δ js)with
      |none=>rw [hγ]at hr;cases hr
      |some δ1=>
       rw [hγ]at hr;dsimp only at hr;refine hg _ _ _ _ H2 _ EB _ v (rep'.av λb z => .inl (z.elim id λ⟨_,q⟩=>nomatch q)) δ1 hγ _ λA3 σ3 H3 s3 E3 => ?_
       cases hτ:τ δ1 with
       |none=>rw [hτ]at hr;cases hr
       |some b=>
        rw [hτ]at hr;refine ht _ _ A3 σ3 H3 δ1 E3 b hτ _ λH4 s4 => ?_
        have E4:=E3.mono s4;cases b with
        |false=>exact Ue ⟨xs.length-(i+1),by omega,rfl,hlt,(s'.trans s2).trans (s3.trans s4),Nat.le_succ_of_le hy,hr⟩
        |true=>
         dsimp only at hr;cases hχ:χ δ1 with
         |some c'=>
          rw [hχ]at hr;cases hr;exact VZ (hx _ _ A3 σ3 H4 δ1 E4 c hχ (λH5 s5=>k H5 (s1.trans (s'.trans ((s2.trans (s3.trans s4)).trans s5)))) _)
         |none=>
          rw [hχ]at hr;dsimp only at hr;cases hε:ε δ1 with
          |none=>rw [hε]at hr;cases hr
          |some yd=>
           rw [hε]at hr;refine VZ (he _ _ A3 σ3 H4 δ1 E4 yd hε _ λvy H5 s5 r5 => ?_);exact⟨by omega,xs.length-(i+1),by omega,rfl,hlt,s'.trans (((s2.trans s3).trans s4).trans s5),by rw [List.length_append,List.length_singleton];omega,hr⟩
    · have ei:i=xs.length:=by omega
      subst ei;rw [List.drop_length]at hr;cases hr
  · rw [if_neg hz]at e;cases e
def Zi4(a:Env->Option D)(χ:Env->Option String)(δ:Env):Option String:=match a δ with
 |some _=>χ δ
 |none=>none
theorem Zhs{r:R2}{ta tb:TE}{q:Ql}{a:Env->Option D}{χ:Env->Option String}(ha:VE G ow ta q a)(hb:VXe G ow E tb χ):VXe G ow E (tOp r ta tb) (Zi4 a χ):=λH0 av A σ H δ R c e k Q=>by
 unfold Zi4 at e;cases hx:a δ with
 |none=>rw [hx]at e;cases e
 |some d=>
  rw [hx]at e;exact ha H0 av A σ H δ R d hx _ λv H1 s1 r1=>hb H0 av A σ H1 δ (R.mono s1) c e (λH' s'=>k H' (s1.trans s')) _
def xBM(a:Env->Option D)(χ:Env->Option String)(δ:Env):Option String:=match a δ with
 |some (.str _)=>χ δ
 |_=>none
theorem ZiO{K:PySem.W.Frag}{r:V->List V->Hp->VK->Prop}{ta te:TE}{a:Env->Option D}{χ:Env->Option String}(ha:VE G ow ta .cl a)(hb:VXe G ow E te χ):VXe G ow E (tBM K "str" r ta (Vj te tNil)) (xBM a χ):=λH0 av A σ H δ R c e k Q=>by
 unfold xBM at e
 split at e
 · rename_i w hx
   refine ha H0 av A σ H δ R _ hx _ λv H1 s1 r1 => ?_
   obtain rfl:v=S w:=r1.any;exact⟨rfl,hb H0 av A σ H1 δ (R.mono s1) c e (λH' s'=>k H' (s1.trans s')) _⟩
 · cases e
end
end DL
namespace L2
open PySem PySem.Spec PyProof.Rows
theorem Za9{β:Type}{b:Addr}{v:β}:∀{l:List (Addr×β)},l.lookup b=some v->(b,v)∈l
 | [],e=>by cases e
 |(a,u)::l,e=>by
  rw [List.lookup_cons]at e;cases hb:b == a with
  |true=>
   rw [hb]at e;cases e;rw [eq_of_beq hb];exact List.mem_cons_self
  |false=>
   rw [hb]at e;exact List.mem_cons_of_mem _ (Za9 e)
theorem Zfc {P:Program} {w:World} {K:PySem.W.Frag} {mg mb:Str->Option Value} {CX:CXT} {k:Nat} {fa a:Addr} {tabs:List (Addr×Str)} {fd:FuncData} {x:Str} {sp:Sp} {s₁:Shared} {vs:List Value} {ns:List Int}
 (KX:K.In s₁.heap) (hns:s₁.heap.Ns mainGlobals mg) (hb:s₁.heap.Ns builtinsNs mb) (hbb:∀x:Str,x ≠ "__name__" -> mb x=bootBuiltins x) (hlim:s₁.heap.NoLimit) (hg:s₁.gens = #[])
 (ha:s₁.heap.get? a=some { cls := .type "list",data := .seq vs.toArray }) (hi:IntsAre vs ns) (hl:ns.length<=sizeLine) (hr:Room k callerA)
 (hP:∀q∈tabs,s₁.heap.get? q.1=some (PySem.W.tabObj #[])) (hT:Xe K=tabs) (hL:∀q∈tabs,tabs.lookup q.1=some q.2) (hKP:∀q∈tabs,K.lookup q.1=none) (hct:∀q∈tabs,isCodeTable s₁.heap q.1)
 (F:∀base:Heap,K.In base->base.Ns mainGlobals mg->FnOk P w K mg base CX k fa fd [x] sp) (hbind:∀(s:Shared)(u:Value),BindsTo s fd ⟨[u],[]⟩ [(x,u)])
 (hsp:∀H:Hp,SqL K H a (ns.map V.int)->sp [.ref a] H (λv _=>v = .bl true) λ_ _ _=>False)
 (hCX:∀H e s',CX [] H s₁ (λ_ _ _=>False) e s'->False) :
 codeAny (model P w) callerA (.call (.ref fa) ⟨[.ref a],[]⟩) (λr s'=>r = .ok (.ret (.bool true))/\OldK s₁.heap s'.heap/\s'.os=s₁.os/\AllBare s'.gens) s₁:=by
 have rv:=Zb6 hi;have lenV:=hi.length;have at_:∀{b:Addr}{q:Str},tabs.lookup b=some q->(b,q)∈tabs:=λe=>Za9 e
 have haP:tabs.lookup a=none:=by
  cases e:tabs.lookup a with
  |none=>rfl
  |some q=>
   have z:=hP _ (at_ e);rw [ha]at z;cases z
 have core:∀H:Hp,(∀b q,tabs.lookup b=some q->H b=some (.tbl #[.str q 0]))->(∀b,tabs.lookup b=none->H b=none\/(b=a/\K.lookup a=none/\∃xs,H b=some (.frz { cls := .type "list",data := .seq vs.toArray } (.lst xs))))->SqL K H a (ns.map V.int)->HOk P w H s₁.heap ->
  codeAny (model P w) callerA (.call (.ref fa) ⟨[.ref a],[]⟩) (λr s'=>r = .ok (.ret (.bool true))/\OldK s₁.heap s'.heap/\s'.os=s₁.os/\AllBare s'.gens) s₁:=by
  intro H hHP hO hS hok;have base_of:∀{b:Addr}{o:Obj},s₁.heap.get? b=some o->H b=none->(Uc s₁.heap H).get? b=some o:=λe n=>Zfw e n
  have noA:∀{b:Addr}{o:Obj}{es:Array DictEntry}{ep:Nat},s₁.heap.get? b=some o->o.data = .dict es ep->H b=none:=λ{b o es ep} e d=>by
   cases hbP:tabs.lookup b with
   |some q=>
    have z:=hP _ (at_ hbP);rw [e]at z;cases z;cases d
   |none=>
    rcases hO b hbP with z|⟨z,_⟩
    · exact z
    · rw [z,ha]at e;cases e;cases d
  have nsK:∀{b:Addr}{m:Str->Option Value},s₁.heap.Ns b m->(Uc s₁.heap H).Ns b m:=λ{b m} ⟨o,es,ep,e,d,r⟩=>⟨o,es,ep,base_of e (noA e d),d,r⟩
  have hKb:K.In (Uc s₁.heap H):=λb o e=>base_of (KX b o e) (by
   cases hbP:tabs.lookup b with
   |some q=>
    have z:=hKP _ (at_ hbP);rw [e]at z;cases z
   |none=>
    rcases hO b hbP with z|⟨z,z2,_⟩
    · exact z
    · rw [z,z2]at e;cases e)
  have hM:Mod K mg (Uc s₁.heap H):=⟨hKb,nsK hns,⟨mb,nsK hb,hbb⟩,let⟨mc,h1,h2⟩:=hlim;⟨mc,nsK h1,h2⟩⟩
  have e0:Env0 P w K mg (Uc s₁.heap H) callerA [] s₁ H:=⟨rfl,hM,λb o e=>ZgX e,Nat.le_of_eq (ZeI _ _),trivial,λb hb=>absurd (show b∈([]:List Addr)from hb) (by simp),hok,.of_eq hg,λq hq=>by
   rw [hT]at hq;exact⟨#[],by rw [hHP q.1 q.2 (hL q hq)];rfl⟩⟩
  refine codeAny_mono ((F _ hKb (nsK hns)).run callerA [] s₁ H ⟨[.ref a],[]⟩ [.ref a] [.ref a] _ _ hr e0 (hbind s₁ (.ref a)) (.cons rfl .nil) (hsp H hS)) λr s' h => ?_
  cases r with
  |error e=>exact(hCX H e s' h).elim
  |ok fl=>
   cases fl with
   |next=>exact False.elim h
   |brk=>exact False.elim h
   |cont=>exact False.elim h
   |ret u=>
    obtain⟨v,H',os,bare,un,hok',r',q⟩:=h;have q':v = .bl true:=q;subst q';obtain rfl:u=Value.bool true:=r'
    have kept:∀b o,tabs.lookup b=none->s₁.heap.get? b=some o->s'.heap.get? b=some o:=λb o hbP e=>by
     rcases hO b hbP with z|⟨z,_,xs,z2⟩
     · exact un.keep b o e z (by intro z;exact absurd (show b∈([]:List Addr)from z) (by simp)) (by simp)
     · have z3:=un.frzs b _ _ z2
       obtain⟨e2,_⟩:=hok' b _ z3;rw [z,ha]at e;cases e;exact e2
    have tab:∀b q,tabs.lookup b=some q->∃qs,s'.heap.get? b=some (PySem.W.tabObj qs):=λb q e=>by
     obtain⟨more,z⟩:=un.tbls b _ (hHP b q e);obtain⟨qs,e,_⟩:=hok' b _ z;exact⟨qs,e⟩
    refine⟨rfl,⟨λb o e => ?_,λb o e => ?_⟩,os,bare⟩
    · cases hbP:tabs.lookup b with
      |some q=>
       obtain⟨qs,e2⟩:=tab b q hbP;have z:=hP _ (at_ hbP);have z:s₁.heap.get? b=_:=z;rw [z]at e;cases e;exact .inr (.inl ⟨hct _ (at_ hbP),rfl,#[],qs,rfl,by rw [Array.empty_append];exact e2⟩)
      |none=>exact .inl (kept b o hbP e)
    · cases hbP:tabs.lookup b with
      |some q=>
       obtain⟨qs,e2⟩:=tab b q hbP;exact⟨_,e2⟩
      |none=>exact⟨o,kept b o hbP e⟩
 have tabOk:∀(H:Hp)(b:Addr)(q:Str),tabs.lookup b=some q->ObjOk P w H s₁.heap b (.tbl #[.str q 0]):=λH b q e=>⟨#[],hP _ (at_ e),trivial,λpos cv z=>by cases z⟩
 cases hk:K.lookup a with
 |some o=>
  have e:=KX a o hk;rw [ha]at e;cases e;refine core (λb=>(tabs.lookup b).map λq => .tbl #[.str q 0]) (λb q e=>by(try dsimp only);rw [e];rfl) (λb hb => .inl (by(try dsimp only);rw [hb];rfl)) (.inr ⟨_,vs.toArray,_,hk,rfl,rfl,rfl,by rw [List.size_toArray,lenV];exact hl,by simpa using rv⟩) (λb u z => ?_);obtain⟨q,e1,e2⟩:=Option.map_eq_some_iff.mp z;subst e2;exact tabOk _ b q e1
 |none=>
  refine core (λb=>match tabs.lookup b with|some q=>some (.tbl #[.str q 0])|none=>if b=a then some (.frz { cls := .type "list",data := .seq vs.toArray } (.lst (ns.map V.int)))else none) (λb q e=>by(try dsimp only);rw [e]) (λb hb => ?_) (.inl (.inr ⟨{ cls := .type "list",data := .seq vs.toArray },by(try dsimp only);rw [haP];exact if_pos rfl⟩)) (λb u z => ?_)
  · by_cases hb2:b=a
    · exact .inr ⟨hb2,hk,_,by(try dsimp only);rw [hb];exact if_pos hb2⟩
    · exact .inl (by(try dsimp only);rw [hb];exact if_neg hb2)
  · cases e:tabs.lookup b with
    |some q=>
     (try dsimp only at z)
     rw [e]at z;cases z;exact tabOk _ b q e
    |none=>
     (try dsimp only at z)
     rw [e]at z
     by_cases hb2:b=a
     · have z':=(if_pos hb2).symm.trans z
       cases z';subst hb2;exact⟨ha,by rw [List.length_map];exact hl,vs,_,rv,ha⟩
     · have z':=(if_neg hb2).symm.trans z
       cases z'
theorem walk_ofN {l:PySem.W.OpenLaw} {n k:Nat} {q:Program} {loose:List Str} {XP:(Str->Option Value)->Heap->Prop} {YP:World->Heap->Prop} {d:DefRec} {K:Params->PySem.W.Frag} {CX:World->CXT} {sp:World->Sp} {x:Str} {tabs:List (Addr×Str)}
 (hn:l.most=some n) (hn2:n<=sizeLine) (hdf:d.params.defaults=[]) (hr:Room k callerA)
 (hY:∀(w:World)(h:Heap),YP w h->(K w.params).In h/\∀q∈tabs,h.get? q.1=some (PySem.W.tabObj #[]))
 (hT:∀w:World,Xe (K w.params)=tabs) (hL:∀q∈tabs,tabs.lookup q.1=some q.2) (hKP:∀w:World,∀q∈tabs,(K w.params).lookup q.1=none)
 (hct:∀w:World,∀q∈tabs,∃c o vs,(K w.params).lookup c=some o/\o.cls = .type "code" /\ o.data = .fields vs/\vs[11]? = some (.ref q.1))
 (F:∀(w:World)(mg:Str->Option Value)(fa:Addr)(h:Heap),(K w.params).In h->h.Ns mainGlobals mg->mg d.name=some (.ref fa) ->
   ∃fd:FuncData,(∀(s:Shared)(u:Value),BindsTo s fd ⟨[u],[]⟩ [(x,u)]) /\
    ∀base:Heap,(K w.params).In base->base.Ns mainGlobals mg->FnOk l.prog w (K w.params) mg base (CX w) k fa fd [x] (sp w))
 (hsp:∀(w:World)(H:Hp)(a:Addr)(ns:List Int),ns.length<=n->SqL (K w.params) H a (ns.map V.int)->sp w [.ref a] H (λv _=>v = .bl true) λ_ _ _=>False)
 (hCX:∀(w:World)(H:Hp)(s:Shared)(e:Value)(s':Shared),CX w [] H s (λ_ _ _=>False) e s'->False) :
 PySem.W.WalkO q loose XP YP l.row.toRowW d [] (λf vs=>PySem.call f vs):=by
 refine Att.attach_call hn hdf λw s₀ s₁ mg mb fa o pm cd doc a vs ns G Y ho hd hcd hmg hobj hints hlen hg => ?_
 obtain⟨KX,hP⟩:=hY w _ Y;obtain⟨fd,hb,hF⟩:=F w mg fa _ KX G.T.g hmg;exact Zfc KX G.T.g G.T.b G.T.builtins G.T.nolimit hg hobj hints (Nat.le_trans hlen hn2) hr hP (hT w) hL (hKP w) (λq hq=>let⟨c,oc,vc,h1,h2⟩:=hct w q hq;⟨c,oc,vc,KX _ _ h1,h2⟩) hF hb (λH hS=>hsp w H a ns hlen hS) λH e s'=>hCX w H s₁ e s'
theorem in_marks{I J M:PySem.W.Frag}{h:Heap}(hm:∀p∈M,(I.lookup p.1).isSome=true)(hx:∀p∈J,I.lookup p.1=none/\J.lookup p.1=some p.2)(k:PySem.W.Frag.In (I++J) h):PySem.W.Frag.In (I++M) h/\∀p∈J,h.get? p.1=some p.2:=by
 have app:∀(I M:PySem.W.Frag)(b:Addr),(I++M).lookup b=(I.lookup b).or (M.lookup b):=λI M b=>by
  induction I with
  |nil=>rfl
  |cons p I ih=>
   obtain⟨a,u⟩:=p;rw [List.cons_append,List.lookup_cons,List.lookup_cons];cases hb:b == a with
   |true=>rfl
   |false=>exact ih
 refine⟨λb o e => ?_,λp hp=>k _ _ ?_⟩
 · have e:(I++M).lookup b=some o:=e
   rw [app]at e;cases hI:I.lookup b with
   |some u=>
    rw [hI]at e;cases e;exact k b _ (show(I++J).lookup b=_ by rw [app,hI];rfl)
   |none=>
    rw [hI]at e;have e:M.lookup b=some o:=e;have z:=hm _ (Za9 e);rw [hI]at z;cases z
 · show(I++J).lookup p.1=_
   rw [app,(hx p hp).1,(hx p hp).2];rfl
end L2
namespace L2
open PySem PySem.Spec PyProof.Rows
def Zj3(st:Stmt):Arguments:=match(defBody st).getLast? with|some (.Return (some (.Lambda a _ _ _)) _)=>a|_=>defArgs st
def Zi5(st:Stmt):Expr:=match(defBody st).getLast? with|some (.Return (some (.Lambda _ b _ _)) _)=>b|_ => .Name "" ⟨0,0,0,0⟩
def V5(st:Stmt):Scope:=match(defBody st).getLast? with|some (.Return (some (.Lambda _ _ s _)) _)=>s|_=>defScope st
def Zml(st:Stmt):Pos:=match(defBody st).getLast? with|some (.Return (some (.Lambda _ _ _ p)) _)=>p|_=>⟨0,0,0,0⟩
def Zmm(st:Stmt):Pos:=match(defBody st).getLast? with|some (.Return _ p)=>p|_=>⟨0,0,0,0⟩
abbrev Ul(qual:Str)(st:Stmt)(N ps fr:List Str):Lm:=⟨qual,Zj3 st,Zi5 st,V5 st,N,ps,fr⟩
theorem LmOq.mono{P:Program}{w:World}{K:PySem.W.Frag}{mg:Str->Option Value}{j k:Nat}{m:Lm}{sp:List V->Sp}(F:LmOq P w K mg j m sp)(h:j<=k):LmOq P w K mg k m sp:=
 ⟨F.sc,F.len,F.bd,λbase f c cl vc A outer s H vs Q E hr=>F.run base f c cl vc A outer s H vs Q E (hr.mono h)⟩
theorem FunX.at{K:PySem.W.Frag}{x qual:Str}{st:Stmt}{f:Addr}{fd:FuncData}(F:FunX K x qual st f fd):∃oc od osl,K.lookup f=some ⟨oc,od,.func fd,osl⟩:=by
 obtain⟨oc,od,dV,kV,doc,pm,an,cdv,ct,osl,rfl,lk,hcd⟩:=F.ex;exact⟨oc,od,osl,lk⟩
end L2
namespace DL
open PySem PySem.Spec L2
section
variable{cA:Kn}{P:Program}{w:World}{K:PySem.W.Frag}{mg:Str->Option Value}
theorem Jv {k n:Nat} {qual:Str} {st:Stmt} {N ps fr:List Str} {e:Expr} {sc:Scope} {ε:Env->Option D} {f:List D->Option D} (hS:V5 st=sc) (hE:Zi5 st=e) (S:CloScope N ps fr (V5 st))
 (bd:∀(cl:List (Str×Addr))(pm ct cd:Value)(us:List Value),us.length=ps.length->bindArgs (PySem.W.kla_fn "<lambda>" qual (Zj3 st) (Zi5 st) (V5 st) cl pm cd ct) ⟨us,[]⟩=pure (ps.zip us))
 (hbody:∀(base:Heap)(f c:Addr)(cl:List (Str×Addr))(A:Around)(outer:List PySem.Env)(s:Shared)(H:Hp),Room k (A.deeper (PySem.W.envX qual sc s.heap.objs.size f (.ref c) cl)) ->
   ∃t,PE (cxC P w K mg base N qual sc f (.ref c) cl A outer s H) e t/\∃q,VE ⟨cA,λ_=>none⟩ [] t q ε) (hf:f=U2 N.length ε) (hn:ps.length=n) :
 L2.LmOq P w K mg k (Ul qual st N ps fr) (Vl cA n f):=by
 subst hS hE;exact ZkF (m:=Ul qual st N ps fr) S bd hbody hf hn
theorem Jw {base:Heap} {x qual lq:Str} {st:Stmt} {f:Addr} {fd:FuncData} {N ps lN lps lfr:List Str} {k n i:Nat} {φ:Env->Option Out} {pre:List Stmt} {scope:Scope} {js:List Nat} {c0 Pt:Addr} {m:List D->Option D}
 (F:FunX K x qual st f fd) (S:FnScope N ps (defScope st)) (hS:defScope st=scope) (hP:(defBody st).dropLast=pre) (hlm:cA.lm i=Ul lq st lN lps lfr) (hB:defBody st=(defBody st).dropLast++[.Return (some (.Lambda (Zj3 st) (Zi5 st) (V5 st) (Zml st))) (Zmm st)]) (hc0:fd.code = .ref c0)
 (Nk:NestK K mg c0 Pt) (htab:(Pt,lq)∈Xe K)
 (W:∀(A:Around)(outer:List PySem.Env)(s:Shared)(H:Hp)(E:XK),∃cl,LamIn (YK CX0 P w K mg base N qual scope f (.ref c0) A outer s H E) (Ul lq st lN lps lfr) js cl)
 (hbody:∀(A:Around)(outer:List PySem.Env)(s:Shared)(H:Hp)(E:XK),Room k (A.deeper (PyProof.Rows.envOfC qual scope s.heap.objs.size f (.ref c0))) ->
   ∃t,PSs (YK CX0 P w K mg base N qual scope f (.ref c0) A outer s H E).nox pre t/\∃owN,VS ⟨cA,λ_=>none⟩ [] owN [] [] t φ) (hm:m=V4 N.length φ i js) (hn:ps.length=n):FnOk P w K mg base CX0 (k+1) f fd ps (spD cA n m):=by
 subst hP;exact Zhr (i:=i) F S hS (by rw [hlm];exact hB) hc0 Nk (by rw [hlm];exact htab) (by rw [hlm];exact W) hbody hm hn
end
end DL
namespace HT
open PySem PySem.W PySem.Calls PyProof.Rows
def de(P:Params)(x:Str)(t:Nat)(v:Value):DictEntry:=⟨PyData.keyHash P x,.str x t,v⟩
def dO(c:Value)(es:List DictEntry)(n:Nat):Obj:=⟨c,none,.dict es.toArray n,#[]⟩
def cO(vs:List Value):Obj:=⟨.type "code",none,.fields vs.toArray,#[]⟩
def fO(x q:Str)(st:Stmt)(dv kv doc pm:Value)(an:Option Addr)(cd ct:Value):Obj:=⟨.type "function",none,.func (fnOf x q (L2.defArgs st) (L2.defBody st) (L2.defScope st) dv kv doc pm an cd ct),#[]⟩
def c3(x q:Str)(t l a n r:Nat)(r2:Nat)(v w:Value)(r3 k k2:Nat):Obj:=cO [.str x t,.str q (t+1),.str "/claim/cut.py" (t+2),.int l 0,.int a 0,.int 0 0,.int 0 0,.int n 0,.ref r,.bool true,.int 181 0,.ref r2,.none,v,w,.ref r3,.int k 0,.int l 0,.str "/claim/cut.py" k2]
def f3(x q:Str)(st:Stmt)(m:Str)(t c:Nat):Obj:=fO x q st .none .none .none (.str m t) none (.ref c) .none
def x3(P:Params)(m:Str)(t a b l c d r e n:Nat):Obj:=dO (.type "dict") [de P "__module__" a (.str m t),de P "__firstlineno__" b (.int l c),de P "__static_attributes__" d (.ref r),de P "__doc__" e .none] n
def k3(x:Str)(a b n r t u:Nat):Obj:=⟨.type "type",none,.cls ⟨x,[.ref b],[.ref a,.ref b,.type "ValueError",.type "Exception",.type "BaseException",.type "object"],n,x,true,[],[],false,none,false⟩,#[some (.ref r),none,some (.str x t),some (.str x u),some (.builtin "ValueError.__new__"),some (.bool true)]⟩
def met{α:Type}(_:α):Bool:=true
noncomputable def ZkH(P:Params):BT:=
 ((((((((((BT.nil.ins 0 (boot_o_0 P)).ins 1 (boot_o_1 P)).ins 2 (boot_o_2 P)).ins 3 (boot_o_3 P)).ins 4 (boot_o_4 P)).ins 5 (boot_o_5 P)).ins 6 (boot_o_6 P)).ins 7 (boot_o_7 P)).ins 8 (boot_o_8 P)).ins 9 (boot_o_9 P)).ins 10 (boot_o_10 P)
noncomputable abbrev S0(w:World)(os:OsState):Shared:=⟨boot_heap w.params,Array.mk [],boot_drawn,boot_toks,os⟩
noncomputable abbrev S0T(w:World)(os:OsState):SharedT:=⟨ZkH w.params,11,(boot_heap w.params).life,Array.mk [],boot_drawn,boot_toks,os⟩
theorem Zmn(w:World)(os:OsState):(S0T w os).abs=S0 w os:=rfl
noncomputable def Zi6(thr ok:Thread->Bool)(st:SharedT->Thread->Option (SharedT×Thread))(n:Nat):SharedT->Thread->Option SharedT:=
 @Nat.rec (λ_=>SharedT->Thread->Option SharedT) (λ_ _=>none)
  (λ_ ih s t => @Bool.rec (λ_=>Option SharedT) (@Bool.rec (λ_=>Option SharedT) none (@Option.rec (SharedT×Thread) (λ_=>Option SharedT) none (λr=>ih r.1 r.2) (st s t)) (ok t)) (some s) (thr t)) n
theorem Zds{tb:String->Option Builtin}{p:Program}{w:World}{n₀:Nat}{ann:Option Value}:∀{n:Nat}{s s':SharedT}{t:Thread},Zi6 through (stepOk n₀ ann) (stepT (denote tb) p w) n s t=some s'->topRun tb p w n₀ ann n s.abs t=some s'.abs
 |0,_,_,_,h=>by cases h
 |n+1,s,s',t,h=>by
  replace h : @Bool.rec (λ_=>Option SharedT) (@Bool.rec (λ_=>Option SharedT) none (@Option.rec (SharedT×Thread) (λ_=>Option SharedT) none (λr=>Zi6 through (stepOk n₀ ann) (stepT (denote tb) p w) n r.1 r.2) (stepT (denote tb) p w s t)) (stepOk n₀ ann t)) (some s) (through t)=some s':=h;unfold topRun;cases ht:through t with
  |true=>rw [ht]at h;cases h;rfl
  |false=>
   rw [ht]at h;cases hk:stepOk n₀ ann t with
   |false=>rw [hk]at h;cases h
   |true=>
    rw [hk]at h;cases hs:stepT (denote tb) p w s t with
    |none=>rw [hs]at h;cases h
    |some r=>obtain⟨s₂,t₂⟩:=r;rw [hs]at h;rw [stepT_spec hs];exact Zds h
theorem Zht {p q:Program} {loose:List Str} {Xt:Shared->Bool} {α:Type} {Yf:Shared->α} {Ya:World->α} {N:Nat}
 (e:opening p=plainProg p.main.scope.names) (hN:Nat.ble 600 N=true) (f:∀s,fenceModules? p s=some s)
 (run:∀w:World,(λos=>(Zi6 through (stepOk 11 (some (.ref 6))) (stepT (denote treeTable) p w) N (S0T w os) (topStub p)).map λs=>((staticsOk (importedModules p.main.body) (boot_heap w.params) s.abs.heap&&namesBound p s.abs.heap&&gensDone s.abs&&laidKept (boot_heap w.params) s.abs.heap),
   openSeen q loose (importedModules p.main.body) Xt true s.abs,Yf s.abs))=λ_=>some (true,openGood q loose,Ya w)):LeftO p q loose Xt Yf Ya N:=λw=>by
 obtain⟨⟨h,gs,d,k,os⟩,e,e'⟩:=Option.map_eq_some_iff.mp (boot_open e hN f w);obtain⟨rfl,rfl,rfl,rfl⟩:h=boot_heap w.params/\gs=Array.mk []/\d=boot_drawn/\k=boot_toks:=by simpa using e'
 obtain⟨s1,r,l⟩:=Option.map_eq_some_iff.mp (congrFun (run w) os);obtain⟨l1,l2,l3⟩:_/\_/\_:=by simpa only [Prod.mk.injEq]using l
 have r:=Zds r;rw [Zmn]at r;have z1:((boot_heap w.params).isNs mainGlobals&&(Array.mk []:Array GenState).size == 0)=true:=by kernel_rfl
 have z2:(boot_heap w.params).objs.size=11:=rfl;have z3:(boot_heap w.params).nsMap mainGlobals "__annotations__" = some (.ref 6):=by kernel_rfl
 have t:topFrom treeTable p w N (S0 w os)=some s1.abs:=by
  unfold topFrom;dsimp only;rw [z1,z2,z3,r];show(match staticsOk (importedModules p.main.body) (boot_heap w.params) s1.abs.heap&&namesBound p s1.abs.heap&&gensDone s1.abs&&laidKept (boot_heap w.params) s1.abs.heap with|true=>_|false=>_)=_;rw [l1]
 unfold openEnds;rw [e];show(topFrom treeTable p w N _).map _=_;rw [t];exact congrArg some (Prod.ext l2 l3)
end HT
namespace HT
open PySem PySem.W PySem.Calls PyProof.Rows
def U3(p q:Program)(loose:List Str)(Xt:Shared->Bool){α:Type}(Yf:Shared->α)(Ya:World->α)(N:Nat)(w:World):Prop:=
 (λos=>(Zi6 through (stepOk 11 (some (.ref 6))) (stepT (denote treeTable) p w) N (S0T w os) (topStub p)).map λs=>((staticsOk (importedModules p.main.body) (boot_heap w.params) s.abs.heap&&namesBound p s.abs.heap&&gensDone s.abs&&laidKept (boot_heap w.params) s.abs.heap),
   openSeen q loose (importedModules p.main.body) Xt true s.abs,Yf s.abs))=λ_=>some (true,openGood q loose,Ya w)
theorem left_split {p q:Program} {loose:List Str} {Xt:Shared->Bool} {α:Type} {Yf:Shared->α} {Ya:World->α} {N:Nat} (row:String)
 (e:opening p=plainProg p.main.scope.names) (hN:Nat.ble 600 N=true) (f:∀s,fenceModules? p s=some s)
 (r0:∀w:World,U3 p q loose Xt Yf Ya N (w.withFollow row false)) (r1:∀w:World,U3 p q loose Xt Yf Ya N (w.withFollow row true)):LeftO p q loose Xt Yf Ya N:=
 Zht e hN f λw=>by
  have e:=PySem.World.withFollow_self w row;show U3 p q loose Xt Yf Ya N w;rw [<-e];cases w.params.followText row with
  |false=>exact r0 w
  |true=>exact r1 w
end HT
namespace DL
open PySem PySem.Spec L2
theorem Yz(i j:Int):eqD (.int i) (.int j)=some (.bl (decide (i=j))):=by
 show(if(ZY (.int i)&&ZY (.int j)&&VV (V.int i) (V.int j))=true then some (D.bl (decide (V.int i=V.int j)))else _)=_;rw [if_pos (by rfl)];simp
theorem YA(a b:List Nat):eqD (.str a) (.str b)=some (.bl (decide (a=b))):=by
 show(if(ZY (.str a)&&ZY (.str b)&&VV (S a) (S b))=true then some (D.bl (decide (S a=S b)))else _)=_;rw [if_pos (by rfl)];simp only [Zky]
theorem Y0(a b:Bool):eqD (.bl a) (.bl b)=some (.bl (decide (a=b))):=by
 show(if(ZY (.bl a)&&ZY (.bl b)&&VV (V.bl a) (V.bl b))=true then some (D.bl (decide (V.bl a=V.bl b)))else _)=_;rw [if_pos (by rfl)];simp
theorem YQ:eqD .non .non=some (.bl true):=rfl
theorem YR(i:Int):eqD .non (.int i)=some (.bl false):=by
 show(if(ZY .non&&ZY (.int i)&&VV V.non (V.int i))=true then some (D.bl (decide (V.non=V.int i)))else _)=_;rw [if_pos (by rfl)];simp
theorem YS(i:Int):eqD (.int i) .non=some (.bl false):=by
 show(if(ZY (.int i)&&ZY .non&&VV (V.int i) V.non)=true then some (D.bl (decide (V.int i=V.non)))else _)=_;rw [if_pos (by rfl)];simp
theorem YT(i j:Int):neD (.int i) (.int j)=some (.bl (!decide (i=j))):=by unfold neD;rw [Yz]
theorem YU(i j:List Nat):neD (.str i) (.str j)=some (.bl (!decide (i=j))):=by unfold neD;rw [YA]
theorem Y1:neD .non .non=some (.bl false):=by unfold neD;rw [YQ];rfl
theorem Y2(i:Int):neD .non (.int i)=some (.bl true):=by unfold neD;rw [YR];rfl
theorem Y3(i:Int):neD (.int i) .non=some (.bl true):=by unfold neD;rw [YS];rfl
theorem ZgB{α:Type}{xs:List α}{i:Int}(h0:0<=i)(h1:i<xs.length):∃x,atI xs i=some x/\xs[i.toNat]? = some x:=by
 have hj:i.toNat<xs.length:=by omega
 refine⟨xs[i.toNat],?_,by simp [hj]⟩;have:=ZbF (xs:=xs) (j:=i.toNat) (v:=xs[i.toNat]) (by simp [hj])
 rwa [Int.toNat_of_nonneg h0]at this
theorem Zdt{γ:D->Env->Option Env}{φ:Env->Option Out}(I:Nat->Env->Prop):∀(xs:List D)(k:Nat)(δ:Env),I k δ ->
 (∀(j:Nat)x δ,xs[j]? = some x->I (k+j) δ->∃δ1,γ x δ=some δ1/\∃δ2,φ δ1=some (.nx δ2)/\I (k+j+1) δ2)->∃δ',Xp γ φ xs δ=some (.nx δ')/\I (k+xs.length) δ'
 | [],k,δ,h,_=>⟨δ,rfl,h⟩
 |x::xs,k,δ,h,step=>by
  obtain⟨δ1,h1,δ2,h2,h3⟩:=step 0 x δ rfl h
  obtain⟨δ',h4,h5⟩:=Zdt I xs (k+1) δ2 h3 λj y δ hy hI=>by
   have:=step (j+1) y δ (by simpa using hy) (by rwa [show k+(j+1)=k+1+j by omega])
   rwa [show k+(j+1)+1=k+1+j+1 by omega]at this
  refine⟨δ',?_,by rwa [List.length_cons,show k+(xs.length+1)=k+1+xs.length by omega]⟩;unfold Xp;rw [h1];dsimp only;rw [h2];exact h4
theorem V6{γ:D->Env->Option Env}{ε:Env->Option D}{δ0:Env}(f:D->D):∀(xs:List D),(∀x∈xs,∃δ1,γ x δ0=some δ1/\ε δ1=some (f x))->Yx γ (λ_=>some true) ε δ0 xs=some (xs.map f)
 | [],_=>rfl
 |x::xs,h=>by
  obtain⟨δ1,h1,h2⟩:=h x List.mem_cons_self;have ih:=V6 f xs λy hy=>h y (List.mem_cons_of_mem _ hy)
  unfold Yx;rw [h1];dsimp only;rw [h2,ih];rfl
theorem ZaO{γ:D->Env->Option Env}{τ:Env->Option Bool}{ε:Env->Option D}{δ0:Env}(p:D->Bool)(f:D->D):∀(xs:List D),(∀x∈xs,∃δ1,γ x δ0=some δ1/\τ δ1=some (p x)/\(p x=true->ε δ1=some (f x)))->Yx γ τ ε δ0 xs=some ((xs.filter p).map f)
 | [],_=>rfl
 |x::xs,h=>by
  obtain⟨δ1,h1,h2,h3⟩:=h x List.mem_cons_self;have ih:=ZaO p f xs λy hy=>h y (List.mem_cons_of_mem _ hy)
  unfold Yx;rw [h1];dsimp only;rw [h2];cases hp:p x with
  |false=>rw [List.filter_cons_of_neg (by simp [hp])];exact ih
  |true=>
   rw [List.filter_cons_of_pos hp];dsimp only;rw [h3 hp,ih];rfl
theorem Zf5{lo c:Int}{n i:Nat}{x:D}(h:(Ym lo c n)[i]? = some x):i<n/\x = .int (lo+(i:Nat)*c):=by
 have hi:i<n:=by have:=(List.getElem?_eq_some_iff.mp h).1;simpa [Ym]using this
 unfold Ym at h;rw [List.getElem?_map,List.getElem?_range hi]at h;exact⟨hi,(Option.some.inj h).symm⟩
theorem ZbP{lo c:Int}{n:Nat}{x:D}(h:x∈Ym lo c n):∃i:Nat,i<n/\x = .int (lo+(i:Nat)*c):=by
 obtain⟨i,hi⟩:=List.getElem?_of_mem h;exact⟨i,Zf5 hi⟩
end DL
namespace DL
open PySem PySem.Spec L2
theorem Zcf{α:Type}(g:α->Nat):∀xs:List α,strs? (xs.map λx=>D.str [g x])=some (xs.map λx=>[g x])
 | []=>rfl
 |x::xs=>by rw [List.map_cons,strs?,Zcf g xs,List.map_cons]
theorem Zcg{α:Type}(g:α->Nat)(xs:List α)(h:xs.length<=sizeLine):joinD [] [.lst (xs.map λx=>D.str [g x])]=some (.str (xs.map g)):=by
 unfold joinD;dsimp only;rw [Zcf];dsimp only
 have e1:((xs.map λx=>[g x]).map List.length).sum=xs.length:=by
  clear h
  induction xs with
  |nil=>rfl
  |cons x xs ih=>
   rw [List.map_cons,List.map_cons,List.sum_cons,ih];simp;omega
 rw [if_pos (by rw [e1];simpa using h),Zb8]
 congr 2
 clear h e1
 induction xs with
 |nil=>rfl
 |cons x xs ih=>rw [List.map_cons,List.flatten_cons,ih];rfl
end DL
namespace DL
open PySem PySem.Spec L2
theorem Zdu{i j:Int}(h:CMul i j):mulD (.int i) (.int j)=some (.int (i*j)):=if_pos h
theorem U4{i j:Int}(h:0<j):modD (.int i) (.int j)=some (.int (i % j)):=if_pos h
theorem ZaC{i j:Int}(h:Yb i j):fdivD (.int i) (.int j)=some (.int (i / j)):=if_pos h
theorem ZcG{cs:List Nat}{i:Int}{c:Nat}(h:cs.length<=sizeLine)(hz:atI cs i=some c):ixD (.str cs) (.int i)=some (.str [c]):=by
 show(if cs.length<=sizeLine then(atI cs i).map λc=>D.str [c]else none)=_;rw [if_pos h,hz];rfl
theorem Zbz{i j:Int}(h1:0<=i)(h2:i<1000):CMul i j := .inl ⟨by omega,by omega⟩
end DL
namespace DL
open PySem PySem.Spec L2
theorem Zq{a b:Env->Option Out}{δ δ':Env}(h:a δ=some (.nx δ')):Zi a b δ=b δ':=by
 unfold Zi;rw [h]
theorem Xm{a b:Env->Option Out}{δ:Env}{d:D}(h:a δ=some (.rt d)):Zi a b δ=some (.rt d):=by
 unfold Zi;rw [h]
theorem Yc{i:Nat}{e:Env->Option D}{δ:Env}{d:D}(h:e δ=some d):Zt i e δ=some (.nx (δ.set i (some d))):=by
 unfold Zt;rw [h]
theorem Ys{e:Env->Option D}{δ:Env}{d:D}(h:e δ=some d):Zp e δ=some (.rt d):=by
 unfold Zp;rw [h]
theorem Xu{t:Env->Option Bool}{a b:Env->Option Out}{δ:Env}(h:t δ=some true):sIf t a b δ=a δ:=by
 unfold sIf;rw [h]
theorem Yd{t:Env->Option Bool}{a b:Env->Option Out}{δ:Env}(h:t δ=some false):sIf t a b δ=b δ:=by
 unfold sIf;rw [h]
theorem Yj{e:Env->Option D}{δ:Env}{b:Bool}(h:e δ=some (.bl b)):xB e δ=some b:=by
 unfold xB;rw [h];rfl
theorem U5{t:Env->Option Bool}{δ:Env}{b:Bool}(h:t δ=some b):ZQ t δ=some (!b):=by
 unfold ZQ;rw [h]
theorem Um{a b:Env->Option Bool}{δ:Env}{x:Bool}(h1:a δ=some false)(h2:b δ=some x):xOr a b δ=some x:=by
 unfold xOr;rw [h1];exact h2
theorem Zf6{a b:Env->Option Bool}{δ:Env}{x:Bool}(h1:a δ=some true)(h2:b δ=some x):Yl a b δ=some x:=by
 unfold Yl;rw [h1];exact h2
theorem Zhu{a b:Env->Option Bool}{δ:Env}(h1:a δ=some false):Yl a b δ=some false:=by
 unfold Yl;rw [h1]
theorem Yk{n:Nat}{m:List D->Option D}{α:Env->Option (List D)}{δ:Env}{ds:List D}(h:α δ=some ds)(hn:ds.length=n):Zm n m [] α δ=m ds:=by
 unfold Zm;rw [h];dsimp only;rw [List.append_nil,if_pos hn]
theorem Zj{a:Env->Option D}{b:Env->Option (List D)}{δ:Env}{x:D}{xs:List D}(h1:a δ=some x)(h2:b δ=some xs):Zb a b δ=some (x::xs):=by
 unfold Zb;rw [h1,h2]
theorem Zs{f:D->D->Option D}{a b:Env->Option D}{δ:Env}{x y:D}(h1:a δ=some x)(h2:b δ=some y):eOp f a b δ=f x y:=by
 unfold eOp;rw [h1,h2]
theorem ZcH{a b:Env->Option D}{δ:Env}{x:D}(h1:a δ=some (.bl true))(h2:b δ=some x):Yh a b δ=some x:=by
 unfold Yh;rw [h1];exact h2
theorem ZgC{α:Env->Option (List D)}{δ:Env}{ds:List D}(h:α δ=some ds)(hl:ds.length<=1000):Z1 α δ=(some (.tup ds):Option D):=by
 unfold Z1;rw [h];exact if_pos (Nat.le_trans hl (by decide))
theorem Xn{α:Env->Option (List D)}{δ:Env}{ds:List D}(h:α δ=some ds)(hl:ds.length<=1000):ZE α δ=(some (.lst ds):Option D):=by
 unfold ZE;rw [h];exact if_pos (Nat.le_trans hl (by decide))
theorem ZaD{γ:D->Env->Option Env}{φ:Env->Option Out}(I:Env->Prop):∀(xs:List D)(δ:Env),I δ ->
 (∀x∈xs,∀δ,I δ->∃δ1,γ x δ=some δ1/\∃δ2,φ δ1=some (.nx δ2)/\I δ2)->∃δ',Xp γ φ xs δ=some (.nx δ')/\I δ'
 | [],δ,h,_=>⟨δ,rfl,h⟩
 |x::xs,δ,h,step=>by
  obtain⟨δ1,h1,δ2,h2,h3⟩:=step x List.mem_cons_self δ h;obtain⟨δ',h4,h5⟩:=ZaD I xs δ2 h3 λy hy=>step y (List.mem_cons_of_mem _ hy)
  refine⟨δ',?_,h5⟩;unfold Xp;rw [h1];dsimp only;rw [h2];exact h4
theorem ZcI{lo c:Int}{n:Nat}{x:D}(h:x∈Ym lo c n):∃k:Nat,k<n/\x = .int (lo+(k:Nat)*c):=by
 unfold Ym at h;obtain⟨k,hk,rfl⟩:=List.mem_map.mp h;exact⟨k,List.mem_range.mp hk,rfl⟩
end DL
namespace DL
open PySem PySem.Spec L2
theorem Jx{α:Env->Option (List D)}{δ:Env}{j:Int}(h:α δ=some [.int j])(h1 : -1000000<=j)(h2:j<=1000000):Xr α δ=some (Ym 0 1 j.toNat):=by
 unfold Xr;rw [h];dsimp only;rw [if_pos ⟨by omega,by omega⟩]
theorem Zea{i:Nat}{ε:Env->Option D}{δ:Env}{xs:List D}{d:D}(h1:Za i δ=some (.lst xs))(h2:ε δ=some d)(hl:xs.length<=1000000):V1 i ε δ=some (.nx (δ.set i (some (.lst (xs++[d]))))):=by
 unfold V1;rw [h1];dsimp only;rw [h2];dsimp only;rw [if_pos (by rw [PySem.sizeLine_eq];omega)]
theorem Zhv{n j:Nat}{x:D}(h:(Ym 0 1 n)[j]? = some x):j<n/\x = .int (j:Nat):=by
 have hj:j<n:=by have:=(List.getElem?_eq_some_iff.mp h).1;simpa [Ym]using this
 refine⟨hj,?_⟩;unfold Ym at h;rw [List.getElem?_map,List.getElem?_range hj]at h;have:=Option.some.inj h;rw [<-this];show D.int (0+(j:Int)*1)=_;rw [show(0+(j:Int)*1)=j by omega]
theorem Zhw(lo c:Int)(n:Nat):(Ym lo c n).length=n:=by simp [Ym]
theorem QE{ι:Env->Option (List D)}{γ:D->Env->Option Env}{φ:Env->Option Out}{δ:Env}{xs:List D}{o:Out}(h1:ι δ=some xs)(h2:Xp γ φ xs δ=some o):XO ι γ φ δ=some o:=by
 unfold XO;rw [h1];exact h2
theorem Ve{ι:Env->Option (List D)}{γ:D->Env->Option Env}{τ:Env->Option Bool}{ε:Env->Option D}{n:Nat}{js:List Nat}{δ δ0:Env}{xs ys:List D}(h1:ι δ=some xs)(hb:Xs n δ js=δ0)(h2:Yx γ τ ε δ0 xs=some ys)(hl:ys.length<=1000000):ZX ι γ τ ε n js δ=some (.lst ys):=by
 unfold ZX;rw [h1];dsimp only;rw [hb,h2];dsimp only;rw [if_pos (by rw [PySem.sizeLine_eq];omega)]
theorem QF{f:List Nat->List D->Option D}{a:Env->Option D}{α:Env->Option (List D)}{δ:Env}{s:List Nat}{ds:List D}(h1:a δ=some (.str s))(h2:α δ=some ds):eBM f a α δ=f s ds:=by
 unfold eBM;rw [h1,h2]
theorem Xv{f:List D->Option D}{α:Env->Option (List D)}{δ:Env}{ds:List D}(h:α δ=some ds):eCB f α δ=f ds:=by
 unfold eCB;rw [h]
theorem Z9{n:Nat}{f:Env->Option Out}{vs:List D}{δ:Env}{d:D}(h1:(vs.map some++List.replicate (n-vs.length) none)=δ)(h2:f δ=some (.rt d)):DL.run n f vs=some d:=by
 unfold DL.run;rw [h1,h2]
theorem nil_of{δ:Env}:eNil δ=some []:=rfl
theorem Zc2{t:List (String×Bool)}{a:Env->Option D}{δ:Env}{d:D}{b:Bool}(h1:a δ=some d)(h2:Yi t d=some b):ZK t a δ=some (.bl b):=by
 unfold ZK;rw [h1];dsimp only;rw [h2]
end DL
namespace DL
open PySem PySem.Spec L2
end DL
namespace DL
open PySem PySem.Spec L2
theorem Zhx{a b:List D}(h:a.length+b.length<=100000):Zj0 (.lst a) (.lst b)=some (.lst (a++b)):=by
 show(if a.length+b.length<=PySem.sizeLine then some (D.lst (a++b))else none)=_;rw [if_pos (by rw [PySem.sizeLine_eq];omega)]
theorem YV{xs:List D}{a:Nat}{x:D}(h:xs[a]? = some x):ixD (.lst xs) (.int (a:Int))=some x:=ZbF h
theorem ix_tup{xs:List D}{a:Nat}{x:D}(h:xs[a]? = some x):ixD (.tup xs) (.int (a:Int))=some x:=ZbF h
theorem Zeb{i:Int}(h:0<=i):∃a:Nat,i=(a:Int):=⟨i.toNat,(Int.toNat_of_nonneg h).symm⟩
theorem Zhy(i:Int){m:Nat}(h:0<m):∃a:Nat,i % (m:Int)=(a:Int)/\a<m:=by
 obtain⟨a,ha⟩:=Zeb (Int.emod_nonneg i (show(m:Int)≠0 by omega));exact⟨a,ha,by have:=Int.emod_lt_of_pos i (b:=(m:Int)) (by omega);omega⟩
theorem len_str{cs:List Nat}(h:cs.length<=100000):lenD [.str cs]=some (.int (cs.length:Int)):=if_pos (by rw [PySem.sizeLine_eq];omega)
theorem len_lst{xs:List D}:lenD [.lst xs]=some (.int (xs.length:Int)):=rfl
theorem ZcJ{xs:List D}:lenD [.tup xs]=some (.int (xs.length:Int)):=rfl
theorem XQ{c:String}{n:Nat}{m:List D->Option D}{α:Env->Option (List D)}{δ:Env}{ds:List D}(h:α δ=some ds)(hn:ds.length+1=n):ZT c n m [] α δ=m (.obj c [] []::ds):=by
 unfold ZT;rw [h];dsimp only;rw [List.append_nil,if_pos (by rw [List.length_cons];exact hn)]
end DL
namespace K09
open PySem PySem.Spec L2 DL
def cs_MARK_SIGNS:List Nat:=[97,98,99,100,101,102,103,104,105,106,107,108,109,110,111,112,113,114,115,116,117,118,119,120,121,122,48,49,50,51,52,53,54,55,56,57]
def Zat:List Nat:=[48,49,50,51,52,53,54,55,56,57]
def U6:List String:=["Turn"]
def U7:List String:=["Turn"]
def Uo:List String:=["Sum"]
def UB:List String:=["Gap"]
def Up:List String:=["Sum"]
def Vf:List String:=["Gap", "Turn"]
def fc_marks:List String:=["Rule", "Gap", "Never", "Sum", "Turn", "Alike", "All"]
def Xw:List String:=["Gap", "Alike"]
def ZgD:List String:=[]
def Jy:List String:=["All"]
def U8:List String:=["Never"]
def Uq:List String:=["Sum"]
def QG:List (String×Bool):=[("NoneType",false),("bool",false),("int",false),("str",false),("list",false),("tuple",false),("Rule",false),("Gap",false),("Never",false),("Sum",false),("Turn",false),("Alike",true),("All",false)]
def U9:List (String×Bool):=[("NoneType",false),("bool",false),("int",false),("str",false),("list",false),("tuple",false),("Rule",false),("Gap",false),("Never",false),("Sum",false),("Turn",false),("Alike",false),("All",true)]
def QH:List (String×Bool):=[("NoneType",false),("bool",false),("int",false),("str",false),("list",false),("tuple",false),("Rule",false),("Gap",true),("Never",false),("Sum",false),("Turn",false),("Alike",false),("All",false)]
def QI:List (String×Bool):=[("NoneType",false),("bool",false),("int",false),("str",false),("list",false),("tuple",false),("Rule",false),("Gap",false),("Never",true),("Sum",false),("Turn",false),("Alike",false),("All",false)]
def QJ:List (String×Bool):=[("NoneType",false),("bool",false),("int",false),("str",false),("list",false),("tuple",false),("Rule",false),("Gap",false),("Never",false),("Sum",true),("Turn",false),("Alike",false),("All",false)]
def QK:List (String×Bool):=[("NoneType",false),("bool",false),("int",false),("str",false),("list",false),("tuple",false),("Rule",false),("Gap",false),("Never",false),("Sum",false),("Turn",true),("Alike",false),("All",false)]
def QL:List (String×Bool):=[("NoneType",false),("bool",true),("int",false),("str",false),("list",false),("tuple",false),("Rule",false),("Gap",false),("Never",false),("Sum",false),("Turn",false),("Alike",false),("All",false)]
def Jz:List (String×Bool):=[("NoneType",false),("bool",true),("int",true),("str",false),("list",false),("tuple",false),("Rule",false),("Gap",false),("Never",false),("Sum",false),("Turn",false),("Alike",false),("All",false)]
def Zc3:List (String×Bool):=[("NoneType",false),("bool",false),("int",false),("str",true),("list",false),("tuple",false),("Rule",false),("Gap",false),("Never",false),("Sum",false),("Turn",false),("Alike",false),("All",false)]
def JA:List (String×Bool):=[("NoneType",false),("bool",false),("int",false),("str",false),("list",false),("tuple",true),("Rule",false),("Gap",false),("Never",false),("Sum",false),("Turn",false),("Alike",false),("All",false)]
noncomputable def Zi7:DL.Env->Option Out:=
 (Zi (sIf (xOr (xB (eOp (ZZ λi j=>decide (i<j)) (eCB lenD (Zb (Za 0) eNil)) (eC (.int 2)))) (xB (eOp (ZZ λi j=>decide (j<i)) (eCB lenD (Zb (Za 0) eNil)) (eC (.int 4))))) (Zp (eC (.bl false))) sNext)
 (Zp (eCB (XN λbs=>bs.all id) (Zb (ZX (Z0 (Za 0)) (Zz 0) (λ_=>some true) (Yh (eOp (inD false) (Za 0) (eC (.str cs_MARK_SIGNS))) (eOp eqD (eBM countD (Za 1) (Zb (Za 0) eNil)) (eC (.int 1)))) 1 [0]) eNil))))
noncomputable def JB:List D->Option D:=run 1 Zi7
noncomputable def Zi8:DL.Env->Option Out:=
 (Zp (Yh (eOp eqD (eCB lenD (Zb (Za 1) eNil)) (eC (.int 1))) (eOp (inD false) (Za 1) (Za 0))))
noncomputable def Qa:List D->Option D:=run 2 Zi8
noncomputable def Zi9:DL.Env->Option Out:=
 (Zi (sIf (xOr (xB (ZK QL (Za 0))) (ZQ (xB (ZK Jz (Za 0))))) (Zp (eC (.bl false))) sNext)
 (Zp (YD (ZZ λi j=>decide (i<=j)) (ZZ λi j=>decide (i<=j)) (Za 1) (Za 0) (Za 2))))
noncomputable def Vm:List D->Option D:=run 3 Zi9
noncomputable def Zja:DL.Env->Option Out:=
 (sIf (ZQ (xB (Za 0))) sNever sNext)
noncomputable def Xo:List D->Option D:=run 2 Zja
noncomputable def Zjb:DL.Env->Option Out:=
 (Zi (sIf (ZQ (xB (Zm 1 JB [] (Zb (Za 1) eNil)))) sNever sNext)
 (Z5 0 fc_marks "marks" (Za 1)))
noncomputable def XR:List D->Option D:=runI 2 Zjb
noncomputable def f_Q7:DL.Env->Option Out:=
 (Zi (Yn 0 2 XR [] (Zb (Za 1) eNil))
 (Zi (ZV (Zm 2 Xo [] (Zb (Zm 2 Qa [] (Zb (Za 1) (Zb (Za 2) eNil))) (Zb (eC (.str [97,32,71,97,112,39,115,32,109,97,114,107,32,105,115,32,111,110,101,32,111,102,32,116,104,101,32,109,97,114,107,115])) eNil))))
 (Zi (ZV (Zm 2 Xo [] (Zb (Zm 3 Vm [] (Zb (Za 3) (Zb (eC (.int 0)) (Zb (eC (.int 8)) eNil)))) (Zb (eC (.str [97,32,71,97,112,39,115,32,108,101,97,115,116,32,105,115,32,102,114,111,109,32,48,32,116,111,32,56])) eNil))))
 (Zi (ZV (Zm 2 Xo [] (Zb (eOr (ZU (Za 4)) (Zm 3 Vm [] (Zb (Za 4) (Zb (Za 3) (Zb (eC (.int 8)) eNil))))) (Zb (eC (.str [97,32,71,97,112,39,115,32,109,111,115,116,32,105,115,32,78,111,110,101,32,111,114,32,102,114,111,109,32,108,101,97,115,116,32,116,111,32,56])) eNil))))
 (Zi (Z5 0 Vf "mark" (Za 2))
 (Zi (Z5 0 UB "least" (Za 3))
 (Z5 0 Xw "most" (Za 4))))))))
noncomputable def UC:List D->Option D:=runI 5 f_Q7
noncomputable def Zjc:DL.Env->Option Out:=
 (Zi (Yn 0 2 XR [] (Zb (Za 1) eNil))
 (Zi (ZV (Zm 2 Xo [] (Zb (YD (ZZ λi j=>decide (i<=j)) (ZZ λi j=>decide (i<=j)) (eC (.int 1)) (eCB lenD (Zb (Za 2) eNil)) (eC (.int 6))) (Zb (eC (.str [97,32,78,101,118,101,114,39,115,32,119,111,114,100,32,104,97,115,32,49,32,116,111,32,54,32,115,105,103,110,115])) eNil))))
 (Zi (ZV (Zm 2 Xo [] (Zb (eCB (XN λbs=>bs.all id) (Zb (ZX (Z0 (Za 2)) (Zz 0) (λ_=>some true) (Zm 2 Qa [] (Zb (Za 1) (Zb (Za 0) eNil))) 1 [1]) eNil)) (Zb (eC (.str [97,32,78,101,118,101,114,39,115,32,119,111,114,100,32,105,115,32,111,102,32,109,97,114,107,115])) eNil))))
 (Z5 0 U8 "word" (Za 2)))))
noncomputable def QM:List D->Option D:=runI 3 Zjc
noncomputable def Zjd:DL.Env->Option Out:=
 (Zi (Yn 0 2 XR [] (Zb (Za 1) eNil))
 (Zi (ZV (Zm 2 Xo [] (Zb (eOp eqD (eCB lenD (Zb (Za 2) eNil)) (eCB lenD (Zb (Za 1) eNil))) (Zb (eC (.str [97,32,83,117,109,32,104,97,115,32,97,115,32,109,97,110,121,32,119,111,114,116,104,115,32,97,115,32,116,104,101,114,101,32,97,114,101,32,109,97,114,107,115])) eNil))))
 (Zi (ZV (Zm 2 Xo [] (Zb (eCB (XN λbs=>bs.all id) (Zb (ZX (Z0 (Za 2)) (Zz 0) (λ_=>some true) (Zm 3 Vm [] (Zb (Za 0) (Zb (eUn Yv (eC (.int 3))) (Zb (eC (.int 3)) eNil)))) 1 []) eNil)) (Zb (eC (.str [97,32,83,117,109,39,115,32,119,111,114,116,104,115,32,97,114,101,32,102,114,111,109,32,45,51,32,116,111,32,51])) eNil))))
 (Zi (ZV (Zm 2 Xo [] (Zb (Zm 3 Vm [] (Zb (Za 3) (Zb (eUn Yv (eC (.int 8))) (Zb (eC (.int 0)) eNil)))) (Zb (eC (.str [97,32,83,117,109,39,115,32,108,111,119,32,105,115,32,102,114,111,109,32,45,56,32,116,111,32,48])) eNil))))
 (Zi (ZV (Zm 2 Xo [] (Zb (Zm 3 Vm [] (Zb (Za 4) (Zb (eC (.int 0)) (Zb (eC (.int 8)) eNil)))) (Zb (eC (.str [97,32,83,117,109,39,115,32,104,105,103,104,32,105,115,32,102,114,111,109,32,48,32,116,111,32,56])) eNil))))
 (Zi (Z5 0 Uq "worths" (eCB V0 (Zb (Za 2) eNil)))
 (Zi (Z5 0 Up "low" (Za 3))
 (Z5 0 Uo "high" (Za 4)))))))))
noncomputable def QN:List D->Option D:=runI 5 Zjd
noncomputable def Zje:DL.Env->Option Out:=
 (Zi (Yn 0 2 XR [] (Zb (Za 1) eNil))
 (Zi (ZV (Zm 2 Xo [] (Zb (Zm 2 Qa [] (Zb (Za 1) (Zb (Za 2) eNil))) (Zb (eC (.str [97,32,84,117,114,110,39,115,32,109,97,114,107,32,105,115,32,111,110,101,32,111,102,32,116,104,101,32,109,97,114,107,115])) eNil))))
 (Zi (ZV (Zm 2 Xo [] (Zb (Zm 3 Vm [] (Zb (Za 3) (Zb (eC (.int 1)) (Zb (eC (.int 6)) eNil)))) (Zb (eC (.str [97,32,84,117,114,110,39,115,32,101,118,101,114,121,32,105,115,32,102,114,111,109,32,49,32,116,111,32,54])) eNil))))
 (Zi (ZV (Zm 2 Xo [] (Zb (Zm 3 Vm [] (Zb (Za 4) (Zb (eC (.int 0)) (Zb (eOp subD (Za 3) (eC (.int 1))) eNil)))) (Zb (eC (.str [97,32,84,117,114,110,39,115,32,97,116,32,105,115,32,102,114,111,109,32,48,32,116,111,32,111,110,101,32,98,101,108,111,119,32,101,118,101,114,121])) eNil))))
 (Zi (Z5 0 Vf "mark" (Za 2))
 (Zi (Z5 0 U7 "every" (Za 3))
 (Z5 0 U6 "at" (Za 4))))))))
noncomputable def QO:List D->Option D:=runI 5 Zje
noncomputable def Zjf:DL.Env->Option Out:=
 (Zi (Yn 0 2 XR [] (Zb (Za 1) eNil))
 (Zi (ZV (Zm 2 Xo [] (Zb (Zm 3 Vm [] (Zb (Za 2) (Zb (eC (.int 1)) (Zb (eC (.int 6)) eNil)))) (Zb (eC (.str [97,110,32,65,108,105,107,101,39,115,32,109,111,115,116,32,105,115,32,102,114,111,109,32,49,32,116,111,32,54])) eNil))))
 (Z5 0 Xw "most" (Za 2))))
noncomputable def QP:List D->Option D:=runI 3 Zjf
noncomputable def JC:DL.Env->Option Out:=
 (Zi (Yn 0 2 XR [] (Zb (Za 1) eNil))
 (Zi (ZV (Zm 2 Xo [] (Zb (eOp (ZZ λi j=>decide (i<=j)) (eCB lenD (Zb (Za 2) eNil)) (eC (.int 6))) (Zb (eC (.str [97,110,32,65,108,108,32,104,97,115,32,97,116,32,109,111,115,116,32,54,32,114,117,108,101,115])) eNil))))
 (Zi (ZV (Zm 2 Xo [] (Zb (Yp (eCB (XN λbs=>bs.any id) (Zb (ZX (Z0 (Za 2)) (Zz 0) (λ_=>some true) (ZK U9 (Za 0)) 1 []) eNil))) (Zb (eC (.str [110,111,32,114,117,108,101,32,105,110,32,97,110,32,65,108,108,32,105,115,32,97,110,32,65,108,108])) eNil))))
 (Zi (ZV (Zm 2 Xo [] (Zb (eCB (XN λbs=>bs.all id) (Zb (ZX (Z0 (Za 2)) (Zz 0) (λ_=>some true) (eOp eqD (Zu fc_marks "marks" (Za 0)) (Za 1)) 1 [1]) eNil)) (Zb (eC (.str [116,104,101,32,114,117,108,101,115,32,105,110,32,97,110,32,65,108,108,32,97,114,101,32,111,102,32,105,116,115,32,109,97,114,107,115])) eNil))))
 (Z5 0 Jy "rules" (eCB V0 (Zb (Za 2) eNil)))))))
noncomputable def UD:List D->Option D:=runI 3 JC
noncomputable def Zj4:DL.Env->Option Out:=
 (Zp (eCB Zfp (Zb (Zu Jy "rules" (Za 0)) eNil)))
noncomputable def Zj5:List D->Option D:=run 1 Zj4
noncomputable def Zjg:DL.Env->Option Out:=
 (Zi (Zt 1 (eOp ixD (eBM partitionD (Za 0) (Zb (eC (.str [35])) eNil)) (eC (.int 0))))
 (Zp (ZX (Z0 (eBM splitD (Za 1) (Zb (eC (.str [32])) eNil))) (Zz 0) (xB (eOp neD (Za 0) (eC (.str [])))) (Za 0) 1 [])))
noncomputable def JD:List D->Option D:=run 2 Zjg
noncomputable def Zjh:DL.Env->Option Out:=
 (Zi (Zt 1 (ZE eNil))
 (Zi (XO (QA (eBM splitD (Za 0) (Zb (eC (.str [10])) eNil))) (Uz 2 (Vb 2 (Vb 3 gsNil))) (Zi (Zt 4 (Zm 1 JD [] (Zb (Za 3) eNil)))
 (sIf (xB (eOp (ZZ λi j=>decide (j<i)) (eCB lenD (Zb (Za 4) eNil)) (eC (.int 0)))) (V1 1 (Z1 (Zb (Za 2) (Zb (Za 4) eNil)))) sNext)))
 (Zp (Za 1))))
noncomputable def Zji:List D->Option D:=run 5 Zjh
noncomputable def Zj6:DL.Env->Option Out:=
 (Zi (sIf (xOr (xB (eOp (ZZ λi j=>decide (i<j)) (eCB lenD (Zb (Za 0) eNil)) (eC (.int 1)))) (xB (eOp (ZZ λi j=>decide (j<i)) (eCB lenD (Zb (Za 0) eNil)) (Za 1)))) (Zp (eC .non)) sNext)
 (Zi (sIf (ZQ (xB (eCB (XN λbs=>bs.all id) (Zb (ZX (Z0 (Za 0)) (Zz 0) (λ_=>some true) (eOp (inD false) (Za 0) (eC (.str Zat))) 1 []) eNil)))) (Zp (eC .non)) sNext)
 (Zi (sIf (Yl (xB (eOp (ZZ λi j=>decide (j<i)) (eCB lenD (Zb (Za 0) eNil)) (eC (.int 1)))) (xB (eOp eqD (eOp ixD (Za 0) (eC (.int 0))) (eC (.str [48]))))) (Zp (eC .non)) sNext)
 (Zp (eCB intD (Zb (Za 0) eNil))))))
noncomputable def Zl7:List D->Option D:=run 2 Zj6
noncomputable def Zj7:DL.Env->Option Out:=
 (Zp (Zm 2 Zl7 [] (Zb (Za 0) (Zb (eC (.int 2)) eNil))))
noncomputable def VD:List D->Option D:=run 1 Zj7
noncomputable def Zj8:DL.Env->Option Out:=
 (Zi (sIf (ZQ (xB (eBM startsD (Za 0) (Zb (eC (.str [45])) eNil)))) (Zp (Zm 1 VD [] (Zb (Za 0) eNil))) sNext)
 (Zi (Zt 1 (Zm 1 VD [] (Zb (eSl (Za 0) (xP (eC (.int 1))) xNoP) eNil)))
 (Zp (eIf (xOr (xB (ZU (Za 1))) (xB (eOp eqD (Za 1) (eC (.int 0))))) (eC .non) (eUn Yv (Za 1))))))
noncomputable def JE:List D->Option D:=run 2 Zj8
noncomputable def f_QV:DL.Env->Option Out:=
 (Zi (sIf (xB (eOp neD (eCB lenD (Zb (Za 0) eNil)) (eC (.int 4)))) (Zp (eC .non)) sNext)
 (Zi (Zt 1 (Zm 1 VD [] (Zb (eOp ixD (Za 0) (eC (.int 2))) eNil)))
 (Zi (Zt 2 (Zm 1 VD [] (Zb (eOp ixD (Za 0) (eC (.int 3))) eNil)))
 (sIf (xOr (xB (ZU (Za 1))) (Yl (xB (ZU (Za 2))) (xB (eOp neD (eOp ixD (Za 0) (eC (.int 3))) (eC (.str [97,110,121])))))) (Zp (eC .non)) sNext))))
noncomputable def Zjj:List D->Option D:=V4 3 f_QV 0 [0,1,2]
noncomputable def f_QG:DL.Env->Option Out:=
 (sIf (xB (eOp neD (eCB lenD (Zb (Za 0) eNil)) (eC (.int 2)))) (Zp (eC .non)) sNext)
noncomputable def Zj9:List D->Option D:=V4 1 f_QG 1 [0]
noncomputable def f_QW:DL.Env->Option Out:=
 (Zi (sIf (xB (eOp (ZZ λi j=>decide (i<j)) (eCB lenD (Zb (Za 0) eNil)) (eC (.int 3)))) (Zp (eC .non)) sNext)
 (Zi (Zt 1 (ZX (Z0 (eSl (Za 0) (xP (eC (.int 1))) xNoP)) (Zz 0) (λ_=>some true) (Zm 1 JE [] (Zb (Za 0) eNil)) 1 []))
 (sIf (xB (eOp (inD false) (eC .non) (Za 1))) (Zp (eC .non)) sNext)))
noncomputable def Zka:List D->Option D:=V4 2 f_QW 2 [1]
noncomputable def f_QN:DL.Env->Option Out:=
 (Zi (sIf (xB (eOp neD (eCB lenD (Zb (Za 0) eNil)) (eC (.int 4)))) (Zp (eC .non)) sNext)
 (Zi (Zt 1 (Zm 1 VD [] (Zb (eOp ixD (Za 0) (eC (.int 2))) eNil)))
 (Zi (Zt 2 (Zm 1 VD [] (Zb (eOp ixD (Za 0) (eC (.int 3))) eNil)))
 (sIf (xOr (xB (ZU (Za 1))) (xB (ZU (Za 2)))) (Zp (eC .non)) sNext))))
noncomputable def Zjk:List D->Option D:=V4 3 f_QN 3 [0,1,2]
noncomputable def f_QH:DL.Env->Option Out:=
 (Zi (sIf (xB (eOp neD (eCB lenD (Zb (Za 0) eNil)) (eC (.int 2)))) (Zp (eC .non)) sNext)
 (Zi (Zt 1 (Zm 1 VD [] (Zb (eOp ixD (Za 0) (eC (.int 1))) eNil)))
 (sIf (xB (ZU (Za 1))) (Zp (eC .non)) sNext)))
noncomputable def Zkb:List D->Option D:=V4 2 f_QH 4 [1]
noncomputable def mt_MAKERS:MkTab:=[([103,97,112],1,Zjj),([110,101,118,101,114],1,Zj9),([115,117,109],1,Zka),([116,117,114,110],1,Zjk),([97,108,105,107,101],1,Zkb)]
noncomputable def Zjl:DL.Env->Option Out:=
 (Zi (sIf (xB (Jt mt_MAKERS (eOp ixD (Za 0) (eC (.int 0))))) (Zp (eC .non)) sNext)
 (sMk 1 mt_MAKERS (eOp ixD (Za 0) (eC (.int 0))) (Zb (Za 0) eNil)))
noncomputable def V7:List D->Option D:=run 2 Zjl
noncomputable def Zkc:DL.Env->Option Out:=
 (Zi (sIf (xB (eOp eqD (eCB lenD (Zb (Za 0) eNil)) (eC (.int 0)))) sNever sNext)
 (Zi (Zt 1 (eOp ixD (eOp ixD (Za 0) (eC (.int 0))) (eC (.int 1))))
 (Zi (sIf (xOr (xB (eOp neD (eOp ixD (Za 1) (eC (.int 0))) (eC (.str [109,97,114,107,115])))) (xB (eOp neD (eCB lenD (Zb (Za 1) eNil)) (eC (.int 2))))) sNever sNext)
 (Zp (eOp ixD (Za 1) (eC (.int 1)))))))
noncomputable def Zjm:List D->Option D:=run 2 Zkc
noncomputable def Zad:DL.Env->Option D:=
 (ZT "Gap" 5 UC [] (Zb (Za 0) (Zb (eOp ixD (Za 1) (eC (.int 1))) (Zb (Za 2) (Zb (Za 3) eNil)))))
noncomputable def Zap:List D->Option D:=U2 4 Zad
noncomputable def Zaa:DL.Env->Option D:=
 (ZT "Never" 3 QM [] (Zb (Za 0) (Zb (eOp ixD (Za 1) (eC (.int 1))) eNil)))
noncomputable def Zah:List D->Option D:=U2 2 Zaa
noncomputable def Zae:DL.Env->Option D:=
 (ZT "Sum" 5 QN [] (Zb (Za 0) (Zb (eCB V0 (Zb (eSl (Za 1) (xP (eC (.int 2))) xNoP) eNil)) (Zb (eOp ixD (Za 1) (eC (.int 0))) (Zb (eOp ixD (Za 1) (eC (.int 1))) eNil)))))
noncomputable def Zaq:List D->Option D:=U2 2 Zae
noncomputable def Zac:DL.Env->Option D:=
 (ZT "Turn" 5 QO [] (Zb (Za 0) (Zb (eOp ixD (Za 1) (eC (.int 1))) (Zb (Za 2) (Zb (Za 3) eNil)))))
noncomputable def Zan:List D->Option D:=U2 4 Zac
noncomputable def Zab:DL.Env->Option D:=
 (ZT "Alike" 3 QP [] (Zb (Za 0) (Zb (Za 1) eNil)))
noncomputable def Zai:List D->Option D:=U2 2 Zab
noncomputable def lt_all:LTab:=[(0,1,Zap),(1,1,Zah),(2,1,Zaq),(3,1,Zan),(4,1,Zai)]
noncomputable def Zjn:DL.Env->Option Out:=
 (Zi (Zt 1 (Zm 1 Zji [] (Zb (Za 0) eNil)))
 (Zi (Zt 2 (Zm 1 Zjm [] (Zb (Za 1) eNil)))
 (Zi (Zt 3 (ZE eNil))
 (Zi (XO (Z0 (eSl (Za 1) (xP (eC (.int 1))) xNoP)) (Uz 2 (Vb 4 (Vb 5 gsNil))) (Zi (Zt 6 (Zm 1 V7 [] (Zb (Za 5) eNil)))
 (Zi (sIf (xB (ZU (Za 6))) sNever sNext)
 (V1 3 (Za 6)))))
 (Zp (ZT "All" 3 UD [] (Zb (Za 2) (Zb (ZX (Z0 (Za 3)) (Zz 0) (λ_=>some true) (Jr 0 lt_all (Zb (Za 1) eNil)) 1 [2]) eNil))))))))
noncomputable def JF:List D->Option D:=run 7 Zjn
noncomputable def Zkd:DL.Env->Option Out:=
 (Zi (sIf (xB (ZK QH (Za 0))) (Zi (Zt 1 (eIf (xB (ZU (Zu Xw "most" (Za 0)))) (eC (.str [97,110,121])) (eCB strW (Zb (Zu Xw "most" (Za 0)) eNil))))
 (Zp (ZE (Zb (eC (.str [103,97,112])) (Zb (Zu Vf "mark" (Za 0)) (Zb (eCB strW (Zb (Zu UB "least" (Za 0)) eNil)) (Zb (Za 1) eNil))))))) sNext)
 (Zi (sIf (xB (ZK QI (Za 0))) (Zp (ZE (Zb (eC (.str [110,101,118,101,114])) (Zb (Zu U8 "word" (Za 0)) eNil)))) sNext)
 (Zi (sIf (xB (ZK QJ (Za 0))) (Zp (eOp Vd (ZE (Zb (eC (.str [115,117,109])) (Zb (eCB strW (Zb (Zu Up "low" (Za 0)) eNil)) (Zb (eCB strW (Zb (Zu Uo "high" (Za 0)) eNil)) eNil)))) (ZX (Z0 (Zu Uq "worths" (Za 0))) (Zz 0) (λ_=>some true) (eCB strW (Zb (Za 0) eNil)) 1 []))) sNext)
 (Zi (sIf (xB (ZK QK (Za 0))) (Zp (ZE (Zb (eC (.str [116,117,114,110])) (Zb (Zu Vf "mark" (Za 0)) (Zb (eCB strW (Zb (Zu U7 "every" (Za 0)) eNil)) (Zb (eCB strW (Zb (Zu U6 "at" (Za 0)) eNil)) eNil)))))) sNext)
 (Zi (sIf (xB (ZK QG (Za 0))) (Zp (ZE (Zb (eC (.str [97,108,105,107,101])) (Zb (eCB strW (Zb (Zu Xw "most" (Za 0)) eNil)) eNil)))) sNext)
 sNever)))))
noncomputable def Zke:DL.Env->Option String:=
 (XZ xNever (sIf (xB (ZK QH (Za 0))) (Zi (Zt 1 (eIf (xB (ZU (Zu Xw "most" (Za 0)))) (eC (.str [97,110,121])) (eCB strW (Zb (Zu Xw "most" (Za 0)) eNil))))
 (Zp (ZE (Zb (eC (.str [103,97,112])) (Zb (Zu Vf "mark" (Za 0)) (Zb (eCB strW (Zb (Zu UB "least" (Za 0)) eNil)) (Zb (Za 1) eNil))))))) sNext)
 (XZ xNever (sIf (xB (ZK QI (Za 0))) (Zp (ZE (Zb (eC (.str [110,101,118,101,114])) (Zb (Zu U8 "word" (Za 0)) eNil)))) sNext)
 (XZ xNever (sIf (xB (ZK QJ (Za 0))) (Zp (eOp Vd (ZE (Zb (eC (.str [115,117,109])) (Zb (eCB strW (Zb (Zu Up "low" (Za 0)) eNil)) (Zb (eCB strW (Zb (Zu Uo "high" (Za 0)) eNil)) eNil)))) (ZX (Z0 (Zu Uq "worths" (Za 0))) (Zz 0) (λ_=>some true) (eCB strW (Zb (Za 0) eNil)) 1 []))) sNext)
 (XZ xNever (sIf (xB (ZK QK (Za 0))) (Zp (ZE (Zb (eC (.str [116,117,114,110])) (Zb (Zu Vf "mark" (Za 0)) (Zb (eCB strW (Zb (Zu U7 "every" (Za 0)) eNil)) (Zb (eCB strW (Zb (Zu U6 "at" (Za 0)) eNil)) eNil)))))) sNext)
 (XZ xNever (sIf (xB (ZK QG (Za 0))) (Zp (ZE (Zb (eC (.str [97,108,105,107,101])) (Zb (eCB strW (Zb (Zu Xw "most" (Za 0)) eNil)) eNil)))) sNext)
 (Zd7 "BadRule" (Zb (eC (.str [112,108,97,105,110,32,114,117,108,101,115,32,97,110,100,32,97,110,32,65,108,108,32,104,97,118,101,32,110,111,32,114,111,119])) eNil)))))))
noncomputable def JG:List D->Option String:=Qw 2 Zke
noncomputable def Zkf:List D->Option D:=run 2 Zkd
noncomputable def Zkg:DL.Env->Option Out:=
 (Zp (eBM joinD (eC (.str [32])) (Zb (Zm 1 Zkf [] (Zb (Za 0) eNil)) eNil)))
noncomputable def Zkh:DL.Env->Option String:=
 (xBM (eC (.str [32])) (Uj 1 JG [] (Zb (Za 0) eNil)))
noncomputable def UE:List D->Option String:=Qw 1 Zkh
noncomputable def Vn:List D->Option D:=run 1 Zkg
noncomputable def Vo:MTab:=[("All",1,Zj5)]
noncomputable def Zki:DL.Env->Option Out:=
 (Zi (Zt 1 (eOp Vd (ZE (Zb (eOp addD (eC (.str [109,97,114,107,115,32])) (Zu fc_marks "marks" (Za 0))) eNil)) (ZX (Z0 (Z8 "rules_told" Vo (Za 0) eNil)) (Zz 0) (λ_=>some true) (Zm 1 Vn [] (Zb (Za 0) eNil)) 1 [])))
 (Zp (eBM joinD (eC (.str [10])) (Zb (Za 1) eNil))))
noncomputable def Zkj:DL.Env->Option String:=
 (XZ (Zi4 (ZE (Zb (eOp addD (eC (.str [109,97,114,107,115,32])) (Zu fc_marks "marks" (Za 0))) eNil)) (Zfq (Z0 (Z8 "rules_told" Vo (Za 0) eNil)) (Zz 0) (λ_=>some true) (Zm 1 Vn [] (Zb (Za 0) eNil)) (Uj 1 UE [] (Zb (Za 0) eNil)) 1 [])) (Zt 1 (eOp Vd (ZE (Zb (eOp addD (eC (.str [109,97,114,107,115,32])) (Zu fc_marks "marks" (Za 0))) eNil)) (ZX (Z0 (Z8 "rules_told" Vo (Za 0) eNil)) (Zz 0) (λ_=>some true) (Zm 1 Vn [] (Zb (Za 0) eNil)) 1 [])))
 xNever)
noncomputable def Zjo:List D->Option String:=Qw 2 Zkj
noncomputable def Qb:List D->Option D:=run 2 Zki
noncomputable def JH:DL.Env->Option Out:=
 (Zi (sIf (xB (eOp (ZZ λi j=>decide (i<j)) (Za 1) (eCB lenD (Zb (Za 0) eNil)))) (Zp (eOp ixD (Za 0) (Za 1))) sNext)
 (Zp (eC (.int 0))))
noncomputable def X1:List D->Option D:=run 2 JH
noncomputable def Zjp:DL.Env->Option Out:=
 (Zi (Zt 1 (eC (.str [97,98,99,100,101,102,103,104,105,106,107,108,109,110,111,112,113,114,115,116,117,118,119,120,121,122,48,49,50,51,52,53,54,55,56,57])))
 (Zi (Zt 2 (eOp addD (eC (.int 1)) (eOp modD (eOp fdivD (Za 0) (eC (.int 36))) (eC (.int 11)))))
 (Zp (eBM joinD (eC (.str [])) (Zb (ZX (Xr (Zb (eOp addD (eC (.int 2)) (eOp modD (eOp fdivD (Za 0) (eC (.int 396))) (eC (.int 3)))) eNil)) (Zz 0) (λ_=>some true) (eOp ixD (Za 1) (eOp modD (eOp addD (Za 2) (eOp mulD (Za 0) (Za 3))) (eC (.int 36)))) 1 [1,0,2]) eNil)))))
noncomputable def JI:List D->Option D:=run 3 Zjp
noncomputable def Zjq:DL.Env->Option Out:=
 (Zi (Zt 5 (eOp ixD (Za 0) (eOp modD (Za 2) (eCB lenD (Zb (Za 0) eNil)))))
 (Zi (sIf (xB (eOp eqD (eOp modD (Za 1) (eC (.int 5))) (eC (.int 0)))) (Zi (Zt 6 (eOp ixD (ZE (Zb (eOp modD (Za 3) (eC (.int 3))) (Zb (eOp modD (Za 3) (eC (.int 9))) eNil))) (eOp modD (Za 4) (eC (.int 2)))))
 (Zi (sIf (xB (eOp eqD (eOp modD (eOp fdivD (Za 4) (eC (.int 2))) (eC (.int 3))) (eC (.int 0)))) (Zp (Z1 (Zb (eC (.str [103,97,112])) (Zb (Za 5) (Zb (Za 6) (Zb (eC .non) eNil)))))) sNext)
 (Zp (Z1 (Zb (eC (.str [103,97,112])) (Zb (Za 5) (Zb (Za 6) (Zb (eCB minD (Zb (eC (.int 8)) (Zb (eOp addD (Za 6) (eOp modD (eOp fdivD (Za 4) (eC (.int 6))) (eC (.int 5)))) eNil))) eNil)))))))) sNext)
 (Zi (sIf (xB (eOp eqD (eOp modD (Za 1) (eC (.int 5))) (eC (.int 1)))) (Zi (Zt 7 (eOp addD (eC (.int 1)) (eOp modD (Za 3) (eC (.int 6)))))
 (Zp (Z1 (Zb (eC (.str [110,101,118,101,114])) (Zb (eBM joinD (eC (.str [])) (Zb (ZX (Xr (Zb (Za 7) eNil)) (Zz 0) (λ_=>some true) (eOp ixD (Za 1) (eOp modD (eOp fdivD (Za 2) (eOp ixD (ZE (Zb (eC (.int 1)) (Zb (eC (.int 3)) (Zb (eC (.int 7)) (Zb (eC (.int 11)) (Zb (eC (.int 17)) (Zb (eC (.int 23)) eNil))))))) (Za 0))) (eCB lenD (Zb (Za 1) eNil)))) 1 [0,2]) eNil)) eNil))))) sNext)
 (Zi (sIf (xB (eOp eqD (eOp modD (Za 1) (eC (.int 5))) (eC (.int 2)))) (Zi (Zt 8 (ZE (Zb (eOp subD (eOp modD (Za 2) (eC (.int 7))) (eC (.int 3))) (Zb (eOp subD (eOp modD (Za 3) (eC (.int 7))) (eC (.int 3))) (Zb (eOp subD (eOp modD (eOp fdivD (Za 2) (eC (.int 7))) (eC (.int 7))) (eC (.int 3))) (Zb (eOp subD (eOp modD (eOp fdivD (Za 3) (eC (.int 7))) (eC (.int 7))) (eC (.int 3))) eNil))))))
 (Zp (Z1 (Zb (eC (.str [115,117,109])) (Zb (eCB V0 (Zb (eSl (Za 8) xNoP (xP (eCB lenD (Zb (Za 0) eNil)))) eNil)) (Zb (eUn Yv (eOp modD (Za 4) (eC (.int 9)))) (Zb (eOp modD (eOp fdivD (Za 4) (eC (.int 9))) (eC (.int 9))) eNil))))))) sNext)
 (Zi (sIf (xB (eOp eqD (eOp modD (Za 1) (eC (.int 5))) (eC (.int 3)))) (Zi (Zt 9 (eOp addD (eC (.int 1)) (eOp modD (Za 3) (eC (.int 6)))))
 (Zp (Z1 (Zb (eC (.str [116,117,114,110])) (Zb (Za 5) (Zb (Za 9) (Zb (eOp modD (Za 4) (Za 9)) eNil))))))) sNext)
 (Zp (Z1 (Zb (eC (.str [97,108,105,107,101])) (Zb (eOp addD (eC (.int 1)) (eOp modD (Za 4) (eC (.int 6)))) eNil)))))))))
noncomputable def Zjr:List D->Option D:=run 10 Zjq
noncomputable def Zkk:DL.Env->Option Out:=
 (Zi (sIf (xB (eOp eqD (eOp ixD (Za 1) (eC (.int 0))) (eC (.str [103,97,112])))) (Zi (sIf (xB (ZU (eOp ixD (Za 1) (eC (.int 3))))) (Zp (ZT "Gap" 5 UC [.non] (Zb (Za 0) (Zb (eOp ixD (Za 1) (eC (.int 1))) (Zb (eOp ixD (Za 1) (eC (.int 2))) eNil))))) sNext)
 (Zp (ZT "Gap" 5 UC [] (Zb (Za 0) (Zb (eOp ixD (Za 1) (eC (.int 1))) (Zb (eOp ixD (Za 1) (eC (.int 2))) (Zb (eOp ixD (Za 1) (eC (.int 3))) eNil))))))) sNext)
 (Zi (sIf (xB (eOp eqD (eOp ixD (Za 1) (eC (.int 0))) (eC (.str [110,101,118,101,114])))) (Zp (ZT "Never" 3 QM [] (Zb (Za 0) (Zb (eOp ixD (Za 1) (eC (.int 1))) eNil)))) sNext)
 (Zi (sIf (xB (eOp eqD (eOp ixD (Za 1) (eC (.int 0))) (eC (.str [115,117,109])))) (Zp (ZT "Sum" 5 QN [] (Zb (Za 0) (Zb (eOp ixD (Za 1) (eC (.int 1))) (Zb (eOp ixD (Za 1) (eC (.int 2))) (Zb (eOp ixD (Za 1) (eC (.int 3))) eNil)))))) sNext)
 (Zi (sIf (xB (eOp eqD (eOp ixD (Za 1) (eC (.int 0))) (eC (.str [116,117,114,110])))) (Zp (ZT "Turn" 5 QO [] (Zb (Za 0) (Zb (eOp ixD (Za 1) (eC (.int 1))) (Zb (eOp ixD (Za 1) (eC (.int 2))) (Zb (eOp ixD (Za 1) (eC (.int 3))) eNil)))))) sNext)
 (Zp (ZT "Alike" 3 QP [] (Zb (Za 0) (Zb (eOp ixD (Za 1) (eC (.int 1))) eNil))))))))
noncomputable def QQ:List D->Option D:=run 2 Zkk
noncomputable def Zkl:DL.Env->Option Out:=
 (Zi (sIf (xB (eOp eqD (eOp ixD (Za 0) (eC (.int 0))) (eC (.str [103,97,112])))) (Zi (Zt 1 (eC (.str [97,110,121])))
 (Zi (sIf (xB (Yr (eOp ixD (Za 0) (eC (.int 3))))) (Zt 1 (eCB strW (Zb (eOp ixD (Za 0) (eC (.int 3))) eNil))) sNext)
 (Zp (ZE (Zb (eC (.str [103,97,112])) (Zb (eOp ixD (Za 0) (eC (.int 1))) (Zb (eCB strW (Zb (eOp ixD (Za 0) (eC (.int 2))) eNil)) (Zb (Za 1) eNil)))))))) sNext)
 (Zi (sIf (xB (eOp eqD (eOp ixD (Za 0) (eC (.int 0))) (eC (.str [115,117,109])))) (Zp (eOp Vd (ZE (Zb (eC (.str [115,117,109])) (Zb (eCB strW (Zb (eOp ixD (Za 0) (eC (.int 2))) eNil)) (Zb (eCB strW (Zb (eOp ixD (Za 0) (eC (.int 3))) eNil)) eNil)))) (ZX (Z0 (eOp ixD (Za 0) (eC (.int 1)))) (Zz 0) (λ_=>some true) (eCB strW (Zb (Za 0) eNil)) 1 []))) sNext)
 (Zp (eOp Vd (ZE (Zb (eOp ixD (Za 0) (eC (.int 0))) eNil)) (ZX (Z0 (eSl (Za 0) (xP (eC (.int 1))) xNoP)) (Zz 0) (λ_=>some true) (eCB strW (Zb (Za 0) eNil)) 1 [])))))
noncomputable def QR:List D->Option D:=run 2 Zkl
noncomputable def Zkm:DL.Env->Option Out:=
 (Zi (sIf (xB (ZK QH (Za 0))) (Zp (Z1 (Zb (eC (.str [103,97,112])) (Zb (Zu Vf "mark" (Za 0)) (Zb (Zu UB "least" (Za 0)) (Zb (Zu Xw "most" (Za 0)) eNil)))))) sNext)
 (Zi (sIf (xB (ZK QI (Za 0))) (Zp (Z1 (Zb (eC (.str [110,101,118,101,114])) (Zb (Zu U8 "word" (Za 0)) eNil)))) sNext)
 (Zi (sIf (xB (ZK QJ (Za 0))) (Zp (Z1 (Zb (eC (.str [115,117,109])) (Zb (Zu Uq "worths" (Za 0)) (Zb (Zu Up "low" (Za 0)) (Zb (Zu Uo "high" (Za 0)) eNil)))))) sNext)
 (Zi (sIf (xB (ZK QK (Za 0))) (Zp (Z1 (Zb (eC (.str [116,117,114,110])) (Zb (Zu Vf "mark" (Za 0)) (Zb (Zu U7 "every" (Za 0)) (Zb (Zu U6 "at" (Za 0)) eNil)))))) sNext)
 (Zi (sIf (xB (ZK QG (Za 0))) (Zp (Z1 (Zb (eC (.str [97,108,105,107,101])) (Zb (Zu Xw "most" (Za 0)) eNil)))) sNext)
 (Zp (Z1 (Zb (eC (.str [111,116,104,101,114])) eNil))))))))
noncomputable def Zjs:List D->Option D:=run 1 Zkm
noncomputable def Zkn(m_QY:List D->Option D):DL.Env->Option Out:=
 (Zi (sIf (xB (ZK JA (Za 1))) (Zi (sIf (xOr (ZQ (xB (ZK JA (Za 0)))) (xB (eOp neD (eCB lenD (Zb (Za 0) eNil)) (eCB lenD (Zb (Za 1) eNil))))) (Zp (eC (.bl false))) sNext)
 (Zi (XO (Xr (Zb (eCB lenD (Zb (Za 1) eNil)) eNil)) (Zz 2) (sIf (ZQ (xB (Zm 2 m_QY [] (Zb (eOp ixD (Za 0) (Za 2)) (Zb (eOp ixD (Za 1) (Za 2)) eNil))))) (Zp (eC (.bl false))) sNext))
 (Zp (eC (.bl true))))) sNext)
 (Zi (sIf (xB (ZU (Za 1))) (Zp (ZU (Za 0))) sNext)
 (Zi (sIf (xB (ZK Zc3 (Za 1))) (Zp (Yh (ZK Zc3 (Za 0)) (eOp eqD (Za 0) (Za 1)))) sNext)
 (Zp (Yh (ZK Jz (Za 0)) (Yh (Yp (ZK QL (Za 0))) (eOp eqD (Za 0) (Za 1))))))))
noncomputable def V8:Nat->List D->Option D
 |0=>λ_=>none
 |n+1=>run 3 (Zkn (V8 n))
noncomputable def m_QY:List D->Option D:=V8 8
noncomputable def Zjt:DL.Env->Option Out:=
 (Zi (Zt 2 (ZE eNil))
 (Zi (XO (Xr (Zb (eOp modD (Zm 2 X1 [] (Zb (Za 0) (Zb (eC (.int 1)) eNil))) (eC (.int 7))) eNil)) (Zz 3) (Zi (Zt 4 (ZX (Xr (Zb (eC (.int 3)) eNil)) (Zz 0) (λ_=>some true) (Zm 2 X1 [] (Zb (Za 1) (Zb (eOp addD (eOp addD (eC (.int 2)) (eOp mulD (eC (.int 3)) (Za 2))) (Za 0)) eNil))) 1 [0,3]))
 (V1 2 (Zm 5 Zjr [] (Zb (Za 1) (Zb (eOp addD (eOp fdivD (eOp ixD (Za 4) (eC (.int 1))) (eC (.int 60))) (eOp fdivD (eOp ixD (Za 4) (eC (.int 2))) (eC (.int 90)))) (Zb (eOp ixD (Za 4) (eC (.int 0))) (Zb (eOp ixD (Za 4) (eC (.int 1))) (Zb (eOp ixD (Za 4) (eC (.int 2))) eNil)))))))))
 (Zp (Za 2))))
noncomputable def Zju:List D->Option D:=run 5 Zjt
noncomputable def Zko:DL.Env->Option Out:=
 (Zi (Zt 1 (eC (.int 0)))
 (Zi (QC (ZV (Zm 1 Vn [] (Zb (Za 0) eNil))) (Uj 1 UE [] (Zb (Za 0) eNil)) ["BadRule"] (Zt 1 (eC (.int 1))))
 (Zp (eOp eqD (Za 1) (eC (.int 1))))))
noncomputable def QS:List D->Option D:=run 2 Zko
noncomputable def Zkp:DL.Env->Option Out:=
 (Zi (Zt 1 (eC (.int 0)))
 (Zi (QC (ZV (Zm 1 Qb [] (Zb (Za 0) eNil))) (Uj 1 Zjo [] (Zb (Za 0) eNil)) ["BadRule"] (Zt 1 (eC (.int 1))))
 (Zp (eOp eqD (Za 1) (eC (.int 1))))))
noncomputable def Zjv:List D->Option D:=run 2 Zkp
noncomputable def Zjw:DL.Env->Option Out:=
 (Zi (Zt 1 (Zm 1 JI [] (Zb (Zm 2 X1 [] (Zb (Za 0) (Zb (eC (.int 0)) eNil))) eNil)))
 (Zi (Zt 2 (Zm 2 Zju [] (Zb (Za 0) (Zb (Za 1) eNil))))
 (Zi (Zt 3 (ZX (Z0 (Za 2)) (Zz 0) (λ_=>some true) (Zm 2 QQ [] (Zb (Za 1) (Zb (Za 0) eNil))) 1 [1]))
 (Zi (Zt 4 (ZT "All" 3 UD [] (Zb (Za 1) (Zb (Za 3) eNil))))
 (Zi (Zt 5 (ZX (Z0 (Za 2)) (Zz 0) (λ_=>some true) (eBM joinD (eC (.str [32])) (Zb (Zm 1 QR [] (Zb (Za 0) eNil)) eNil)) 1 []))
 (Zi (XO (Xr (Zb (eCB lenD (Zb (Za 2) eNil)) eNil)) (Zz 6) (sIf (ZQ (xB (Zm 2 m_QY [] (Zb (Zm 1 Vn [] (Zb (eOp ixD (Za 3) (Za 6)) eNil)) (Zb (eOp ixD (Za 5) (Za 6)) eNil))))) (Zp (eC (.bl false))) sNext))
 (Zi (Zt 7 (eBM joinD (eC (.str [10])) (Zb (eOp Vd (ZE (Zb (eOp addD (eC (.str [109,97,114,107,115,32])) (Za 1)) eNil)) (Za 5)) eNil)))
 (Zi (sIf (ZQ (xB (Zm 2 m_QY [] (Zb (Zm 1 Qb [] (Zb (Za 4) eNil)) (Zb (Za 7) eNil))))) (Zp (eC (.bl false))) sNext)
 (Zi (Zt 8 (Zm 1 JF [] (Zb (Za 7) eNil)))
 (Zi (sIf (xOr (ZQ (xB (ZK U9 (Za 8)))) (xOr (ZQ (xB (Zm 2 m_QY [] (Zb (Zu fc_marks "marks" (Za 8)) (Zb (Za 1) eNil))))) (xB (eOp neD (eCB lenD (Zb (Z8 "rules_told" Vo (Za 8) eNil) eNil)) (eCB lenD (Zb (Za 2) eNil)))))) (Zp (eC (.bl false))) sNext)
 (Zi (XO (Xr (Zb (eCB lenD (Zb (Za 2) eNil)) eNil)) (Zz 6) (Zi (Zt 9 (eOp ixD (Z8 "rules_told" Vo (Za 8) eNil) (Za 6)))
 (sIf (xOr (ZQ (xB (Zm 2 m_QY [] (Zb (Zm 1 Zjs [] (Zb (Za 9) eNil)) (Zb (eOp ixD (Za 2) (Za 6)) eNil))))) (xB (eOp neD (Zu fc_marks "marks" (Za 9)) (Za 1)))) (Zp (eC (.bl false))) sNext)))
 (Zi (sIf (xOr (ZQ (xB (Zm 2 m_QY [] (Zb (Zm 1 Qb [] (Zb (Za 8) eNil)) (Zb (Za 7) eNil))))) (xOr (ZQ (xB (Zm 1 QS [] (Zb (ZT "Rule" 2 XR [] (Zb (Za 1) eNil)) eNil)))) (ZQ (xB (Zm 1 QS [] (Zb (Za 4) eNil)))))) (Zp (eC (.bl false))) sNext)
 (Zi (Zt 3 (Jn (Za 3) xNoP (xP (eC (.int 5)))))
 (Zi (Jo 3 (eOp modD (eOp fdivD (Zm 2 X1 [] (Zb (Za 0) (Zb (eC (.int 1)) eNil))) (eC (.int 7))) (eOp addD (eCB lenD (Zb (Za 3) eNil)) (eC (.int 1)))) (ZT "Rule" 2 XR [] (Zb (Za 1) eNil)))
 (Zp (Zm 1 Zjv [] (Zb (ZT "All" 3 UD [] (Zb (Za 1) (Zb (Za 3) eNil))) eNil)))))))))))))))))
noncomputable def Zjx:List D->Option D:=run 10 Zjw
end K09
namespace K09
open PySem PySem.Spec L2 DL
def top(i:Nat):Stmt:=PySem.Challenge.pw_grooveway_k09_whole_pages_there_and_back.main.body.getD i (.Pass ⟨0,0,0,0⟩)
abbrev JJ:Stmt:=top 9
abbrev Zjy:Stmt:=top 10
abbrev Zjz:Stmt:=top 11
abbrev ZjA:Stmt:=top 12
abbrev ZjB:Stmt:=Uy (top 13) 0
abbrev Ur:Stmt:=Uy (top 14) 0
abbrev JK:Stmt:=Uy (top 15) 0
abbrev JL:Stmt:=Uy (top 16) 0
abbrev ZjC:Stmt:=Uy (top 17) 0
abbrev ZjD:Stmt:=Uy (top 18) 0
abbrev QT:Stmt:=Uy (top 19) 0
abbrev ZjE:Stmt:=Uy (top 19) 3
abbrev JM:Stmt:=top 22
abbrev ZjF:Stmt:=top 23
abbrev JN:Stmt:=top 24
abbrev ZjG:Stmt:=top 25
abbrev ZjH:Stmt:=top 26
abbrev VH:Stmt:=top 27
abbrev VL:Stmt:=top 28
abbrev Vp:Stmt:=top 29
abbrev VM:Stmt:=top 30
abbrev VN:Stmt:=top 31
abbrev ZjI:Stmt:=top 33
abbrev ZjJ:Stmt:=top 34
abbrev JO:Stmt:=top 35
abbrev JP:Stmt:=top 36
abbrev ZjK:Stmt:=top 37
abbrev JQ:Stmt:=top 38
abbrev ZjL:Stmt:=top 40
abbrev JR:Stmt:=top 41
abbrev JS:Stmt:=top 42
abbrev ZjM:Stmt:=top 43
abbrev QU:Stmt:=top 44
abbrev ZjN:Stmt:=top 45
abbrev ZjO:Stmt:=top 46
abbrev JT:Stmt:=top 47
abbrev ZjP:Stmt:=top 48
abbrev ZjQ:Stmt:=top 49
abbrev QV:Stmt:=top 50
theorem ZkI:FnScope ["marks"] ["marks"] (defScope JJ):=fsm
theorem ZkJ:FnScope ["marks", "text"] ["marks", "text"] (defScope Zjy):=fsm
theorem ZkK:FnScope ["number", "low", "high"] ["number", "low", "high"] (defScope Zjz):=fsm
theorem ZkL:FnScope ["holds", "words"] ["holds", "words"] (defScope ZjA):=fsm
theorem ZkM:FnScope ["self", "marks"] ["self", "marks"] (defScope ZjB):=fsm
theorem ZkN:FnScope ["self", "marks", "mark", "least", "most"] ["self", "marks", "mark", "least", "most"] (defScope Ur):=fsm
theorem ZkO:FnScope ["self", "marks", "word"] ["self", "marks", "word"] (defScope JK):=fsm
theorem ZkP:FnScope ["self", "marks", "worths", "low", "high"] ["self", "marks", "worths", "low", "high"] (defScope JL):=fsm
theorem ZkQ:FnScope ["self", "marks", "mark", "every", "at"] ["self", "marks", "mark", "every", "at"] (defScope ZjC):=fsm
theorem ZkR:FnScope ["self", "marks", "most"] ["self", "marks", "most"] (defScope ZjD):=fsm
theorem ZkS:FnScope ["self", "marks", "rules"] ["self", "marks", "rules"] (defScope QT):=fsm
theorem ZkT:FnScope ["self"] ["self"] (defScope ZjE):=fsm
theorem ZkU:FnScope ["row", "said"] ["row"] (defScope JM):=fsm
theorem ZkV:FnScope ["page", "rows", "number", "row", "words"] ["page"] (defScope ZjF):=fsm
theorem ZkW:FnScope ["word", "figures"] ["word", "figures"] (defScope JN):=fsm
theorem ZkX:FnScope ["word"] ["word"] (defScope ZjG):=fsm
theorem ZkY:FnScope ["word", "number"] ["word"] (defScope ZjH):=fsm
theorem ZkZ:FnScope ["words", "least", "most"] ["words"] (defScope VH):=fsm
theorem Zk0:FnScope ["words"] ["words"] (defScope VL):=fsm
theorem Zk1:FnScope ["words", "numbers"] ["words"] (defScope Vp):=fsm
theorem Zk2:FnScope ["words", "every", "at"] ["words"] (defScope VM):=fsm
theorem Zk3:FnScope ["words", "most"] ["words"] (defScope VN):=fsm
theorem Zk4:FnScope ["words", "maker_of"] ["words"] (defScope ZjI):=fsm
theorem Zk5:FnScope ["rows", "words"] ["rows"] (defScope ZjJ):=fsm
theorem Zk6:FnScope ["page", "rows", "marks", "makers", "number", "words", "maker"] ["page"] (defScope JO):=fsm
theorem Zk7:FnScope ["rule", "most"] ["rule"] (defScope JP):=fsm
theorem Zk8:FnScope ["rule"] ["rule"] (defScope ZjK):=fsm
theorem Zk9:FnScope ["rule", "rows"] ["rule"] (defScope JQ):=fsm
theorem Zla:FnScope ["script", "k"] ["script", "k"] (defScope ZjL):=fsm
theorem Zlb:FnScope ["cell", "some", "step"] ["cell"] (defScope JR):=fsm
theorem Zlc:FnScope ["marks", "kind", "one", "two", "three", "mark", "lowest", "size", "worths", "every"] ["marks", "kind", "one", "two", "three"] (defScope JS):=fsm
theorem Zld:FnScope ["marks", "rule"] ["marks", "rule"] (defScope ZjM):=fsm
theorem Zle:FnScope ["rule", "most"] ["rule"] (defScope QU):=fsm
theorem Zlf:FnScope ["rule"] ["rule"] (defScope ZjN):=fsm
theorem Zlg:FnScope ["found", "due", "k"] ["found", "due"] (defScope ZjO):=fsm
theorem Zlh:FnScope ["script", "marks", "rules", "k", "cells"] ["script", "marks"] (defScope JT):=fsm
theorem Zli:FnScope ["rule", "refused"] ["rule"] (defScope ZjP):=fsm
theorem Zlj:FnScope ["rule", "refused"] ["rule"] (defScope ZjQ):=fsm
theorem Zlk:FnScope ["script", "marks", "rules", "made", "every", "rows", "k", "page", "found", "one"] ["script"] (defScope QV):=fsm
structure Adr where
 (a_QI a_Q9 a_Q2 a_Qb a_QX a_Q7 a_QS a_Q5 a_Q1 a_QQ a_Q4 a_QB a_Q8 a_Qa a_Q6 a_QZ a_QT a_QV a_QG a_QW a_QN a_QH a_QR a_QO a_QK a_QM a_Q3 a_QL a_QE a_QJ a_QU a_Q0 a_QC a_QF a_QY a_QP a_QD a_QA a_Qc c_BadRule c_Rule c_Gap c_Never c_Sum c_Turn c_Alike c_All cc_gap_maker tb_gap_maker cc_never_maker tb_never_maker cc_sum_maker tb_sum_maker cc_turn_maker tb_turn_maker cc_alike_maker tb_alike_maker am_MAKERS:Addr)
 (d_QI d_Q9 d_Q2 d_Qb d_QX d_Q7 d_QS d_Q5 d_Q1 d_QQ d_Q4 d_QB d_Q8 d_Qa d_Q6 d_QZ d_QT d_QV d_QG d_QW d_QN d_QH d_QR d_QO d_QK d_QM d_Q3 d_QL d_QE d_QJ d_QU d_Q0 d_QC d_QF d_QY d_QP d_QD d_QA d_Qc:FuncData)
 (u_MARK_SIGNS u_FIGURES:Value)
abbrev Zar:Lm:=Ul "gap_maker.<locals>.<lambda>" VH ["marks", "words", "least", "most"] ["marks"] ["words", "least", "most"]
theorem ZbV:CloScope ["marks", "words", "least", "most"] ["marks"] ["words", "least", "most"] (V5 VH):=⟨rfl,rfl,rfl,by decide +kernel,rfl,by decide +kernel,by decide +kernel,by decide +kernel⟩
abbrev Zav:Lm:=Ul "never_maker.<locals>.<lambda>" VL ["marks", "words"] ["marks"] ["words"]
theorem Zbk:CloScope ["marks", "words"] ["marks"] ["words"] (V5 VL):=⟨rfl,rfl,rfl,by decide +kernel,rfl,by decide +kernel,by decide +kernel,by decide +kernel⟩
abbrev ZaP:Lm:=Ul "sum_maker.<locals>.<lambda>" Vp ["marks", "numbers"] ["marks"] ["numbers"]
theorem ZbW:CloScope ["marks", "numbers"] ["marks"] ["numbers"] (V5 Vp):=⟨rfl,rfl,rfl,by decide +kernel,rfl,by decide +kernel,by decide +kernel,by decide +kernel⟩
abbrev ZaH:Lm:=Ul "turn_maker.<locals>.<lambda>" VM ["marks", "words", "every", "at"] ["marks"] ["words", "every", "at"]
theorem Zbo:CloScope ["marks", "words", "every", "at"] ["marks"] ["words", "every", "at"] (V5 VM):=⟨rfl,rfl,rfl,by decide +kernel,rfl,by decide +kernel,by decide +kernel,by decide +kernel⟩
abbrev Zaw:Lm:=Ul "alike_maker.<locals>.<lambda>" VN ["marks", "most"] ["marks"] ["most"]
theorem Zbl:CloScope ["marks", "most"] ["marks"] ["most"] (V5 VN):=⟨rfl,rfl,rfl,by decide +kernel,rfl,by decide +kernel,by decide +kernel,by decide +kernel⟩
def lms:Nat->Lm:=λi=>[Zar,Zav,ZaP,ZaH,Zaw].getD i Zar
abbrev JU(t:Adr):List Addr:=[t.a_QV,t.a_QG,t.a_QW,t.a_QN,t.a_QH]
def Adr.c(t:Adr):String->Addr:=λc=>if c = "Rule" then t.c_Rule else if c = "Gap" then t.c_Gap else if c = "Never" then t.c_Never else if c = "Sum" then t.c_Sum else if c = "Turn" then t.c_Turn else if c = "Alike" then t.c_Alike else if c = "All" then t.c_All else if c = "BadRule" then t.c_BadRule else 0
structure Txt(w:World)(K:PySem.W.Frag)(mg:Str->Option Value)(t:Adr):Prop where
 p_QI:Dg K mg "marks_stand" JJ t.a_QI t.d_QI ["marks"]
 p_Q9:Dg K mg "is_mark" Zjy t.a_Q9 t.d_Q9 ["marks", "text"]
 p_Q2:Dg K mg "is_whole" Zjz t.a_Q2 t.d_Q2 ["number", "low", "high"]
 p_Qb:Dg K mg "demand" ZjA t.a_Qb t.d_Qb ["holds", "words"]
 p_QX:Df K "__init__" "Rule.__init__" ZjB t.a_QX t.d_QX ["self", "marks"]
 f_Q7:FunX K "__init__" "Gap.__init__" Ur t.a_Q7 t.d_Q7
 b_Q7:Binds K t.d_Q7 ["self", "marks", "mark", "least", "most"] []
 b1_Gap_init:Binds K t.d_Q7 ["self", "marks", "mark", "least", "most"] [.none]
 k_Q7:keepIn K (.ref t.a_Q7)=true
 p_QS:Df K "__init__" "Never.__init__" JK t.a_QS t.d_QS ["self", "marks", "word"]
 p_Q5:Df K "__init__" "Sum.__init__" JL t.a_Q5 t.d_Q5 ["self", "marks", "worths", "low", "high"]
 p_Q1:Df K "__init__" "Turn.__init__" ZjC t.a_Q1 t.d_Q1 ["self", "marks", "mark", "every", "at"]
 p_QQ:Df K "__init__" "Alike.__init__" ZjD t.a_QQ t.d_QQ ["self", "marks", "most"]
 p_Q4:Df K "__init__" "All.__init__" QT t.a_Q4 t.d_Q4 ["self", "marks", "rules"]
 p_QB:Df K "rules_told" "All.rules_told" ZjE t.a_QB t.d_QB ["self"]
 p_Q8:Dg K mg "words_in" JM t.a_Q8 t.d_Q8 ["row"]
 p_Qa:Dg K mg "rows_of" ZjF t.a_Qa t.d_Qa ["page"]
 p_Q6:Dg K mg "whole_in" JN t.a_Q6 t.d_Q6 ["word", "figures"]
 p_QZ:Dg K mg "number_in" ZjG t.a_QZ t.d_QZ ["word"]
 p_QT:Dg K mg "signed_in" ZjH t.a_QT t.d_QT ["word"]
 f_QV:FunX K "gap_maker" "gap_maker" VH t.a_QV t.d_QV
 b_QV:Binds K t.d_QV ["words"] []
 g_QV:mg "gap_maker" = some (.ref t.a_QV)
 k_QV:keepIn K (.ref t.a_QV)=true
 f_QG:FunX K "never_maker" "never_maker" VL t.a_QG t.d_QG
 b_QG:Binds K t.d_QG ["words"] []
 g_QG:mg "never_maker" = some (.ref t.a_QG)
 k_QG:keepIn K (.ref t.a_QG)=true
 f_QW:FunX K "sum_maker" "sum_maker" Vp t.a_QW t.d_QW
 b_QW:Binds K t.d_QW ["words"] []
 g_QW:mg "sum_maker" = some (.ref t.a_QW)
 k_QW:keepIn K (.ref t.a_QW)=true
 f_QN:FunX K "turn_maker" "turn_maker" VM t.a_QN t.d_QN
 b_QN:Binds K t.d_QN ["words"] []
 g_QN:mg "turn_maker" = some (.ref t.a_QN)
 k_QN:keepIn K (.ref t.a_QN)=true
 f_QH:FunX K "alike_maker" "alike_maker" VN t.a_QH t.d_QH
 b_QH:Binds K t.d_QH ["words"] []
 g_QH:mg "alike_maker" = some (.ref t.a_QH)
 k_QH:keepIn K (.ref t.a_QH)=true
 p_QR:Dg K mg "rule_maker" ZjI t.a_QR t.d_QR ["words"]
 p_QO:Dg K mg "marks_told" ZjJ t.a_QO t.d_QO ["rows"]
 p_QK:Dg K mg "read_rules" JO t.a_QK t.d_QK ["page"]
 p_QM:Dg K mg "rule_words" JP t.a_QM t.d_QM ["rule"]
 p_Q3:Dg K mg "rule_row" ZjK t.a_Q3 t.d_Q3 ["rule"]
 p_QL:Dg K mg "rules_page" JQ t.a_QL t.d_QL ["rule"]
 p_QE:Dg K mg "_law_cell_at" ZjL t.a_QE t.d_QE ["script", "k"]
 p_QJ:Dg K mg "_law_marks" JR t.a_QJ t.d_QJ ["cell"]
 p_QU:Dg K mg "_law_rule" JS t.a_QU t.d_QU ["marks", "kind", "one", "two", "three"]
 p_Q0:Dg K mg "_law_made" ZjM t.a_Q0 t.d_Q0 ["marks", "rule"]
 p_QC:Dg K mg "_law_row_words" QU t.a_QC t.d_QC ["rule"]
 p_QF:Dg K mg "_law_values" ZjN t.a_QF t.d_QF ["rule"]
 p_QY:Dg K mg "_law_same" ZjO t.a_QY t.d_QY ["found", "due"]
 p_QP:Dg K mg "_law_rules" JT t.a_QP t.d_QP ["script", "marks"]
 p_QD:Dg K mg "_law_refused" ZjP t.a_QD t.d_QD ["rule"]
 p_QA:Dg K mg "_law_page_refused" ZjQ t.a_QA t.d_QA ["rule"]
 p_Qc:Dg K mg "law" QV t.a_Qc t.d_Qc ["script"]
 cd_gap_maker:t.d_QV.code = .ref t.cc_gap_maker
 nk_gap_maker:NestK K mg t.cc_gap_maker t.tb_gap_maker
 tb_gap_maker:(t.tb_gap_maker,("gap_maker.<locals>.<lambda>" : Str))∈Xe K
 cd_never_maker:t.d_QG.code = .ref t.cc_never_maker
 nk_never_maker:NestK K mg t.cc_never_maker t.tb_never_maker
 tb_never_maker:(t.tb_never_maker,("never_maker.<locals>.<lambda>" : Str))∈Xe K
 cd_sum_maker:t.d_QW.code = .ref t.cc_sum_maker
 nk_sum_maker:NestK K mg t.cc_sum_maker t.tb_sum_maker
 tb_sum_maker:(t.tb_sum_maker,("sum_maker.<locals>.<lambda>" : Str))∈Xe K
 cd_turn_maker:t.d_QN.code = .ref t.cc_turn_maker
 nk_turn_maker:NestK K mg t.cc_turn_maker t.tb_turn_maker
 tb_turn_maker:(t.tb_turn_maker,("turn_maker.<locals>.<lambda>" : Str))∈Xe K
 cd_alike_maker:t.d_QH.code = .ref t.cc_alike_maker
 nk_alike_maker:NestK K mg t.cc_alike_maker t.tb_alike_maker
 tb_alike_maker:(t.tb_alike_maker,("alike_maker.<locals>.<lambda>" : Str))∈Xe K
 g_MAKERS:mg "MAKERS" = some (.ref t.am_MAKERS)
 md_MAKERS:∀P:Program,MkD P w K t.am_MAKERS (UA mt_MAKERS (JU t))
 n_ValueError:mg "ValueError" = none
 n_all:mg "all" = none
 n_any:mg "any" = none
 n_bool:mg "bool" = none
 n_enumerate:mg "enumerate" = none
 n_int:mg "int" = none
 n_isinstance:mg "isinstance" = none
 n_len:mg "len" = none
 n_list:mg "list" = none
 n_min:mg "min" = none
 n_range:mg "range" = none
 n_str:mg "str" = none
 n_tuple:mg "tuple" = none
 n_zip:mg "zip" = none
 g_MARK_SIGNS:mg "MARK_SIGNS" = some t.u_MARK_SIGNS
 r_MARK_SIGNS:RelV (S cs_MARK_SIGNS) t.u_MARK_SIGNS
 g_FIGURES:mg "FIGURES" = some t.u_FIGURES
 r_FIGURES:RelV (S Zat) t.u_FIGURES
 g_Rule:mg "Rule" = some (.ref t.c_Rule)
 cl_Rule:Cls K t.c_Rule
 ci_Rule:ClsI K t.c_Rule
 mk_Rule:Mk K t.c_Rule t.a_QX
 g_Gap:mg "Gap" = some (.ref t.c_Gap)
 cl_Gap:Cls K t.c_Gap
 ci_Gap:ClsI K t.c_Gap
 mk_Gap:Mk K t.c_Gap t.a_Q7
 g_Never:mg "Never" = some (.ref t.c_Never)
 cl_Never:Cls K t.c_Never
 ci_Never:ClsI K t.c_Never
 mk_Never:Mk K t.c_Never t.a_QS
 g_Sum:mg "Sum" = some (.ref t.c_Sum)
 cl_Sum:Cls K t.c_Sum
 ci_Sum:ClsI K t.c_Sum
 mk_Sum:Mk K t.c_Sum t.a_Q5
 g_Turn:mg "Turn" = some (.ref t.c_Turn)
 cl_Turn:Cls K t.c_Turn
 ci_Turn:ClsI K t.c_Turn
 mk_Turn:Mk K t.c_Turn t.a_Q1
 g_Alike:mg "Alike" = some (.ref t.c_Alike)
 cl_Alike:Cls K t.c_Alike
 ci_Alike:ClsI K t.c_Alike
 mk_Alike:Mk K t.c_Alike t.a_QQ
 g_All:mg "All" = some (.ref t.c_All)
 cl_All:Cls K t.c_All
 ci_All:ClsI K t.c_All
 mk_All:Mk K t.c_All t.a_Q4
 fl_at:XW K ⟨t.c,K,lms⟩ U6 "at"
 fl_every:XW K ⟨t.c,K,lms⟩ U7 "every"
 fl_high:XW K ⟨t.c,K,lms⟩ Uo "high"
 fl_least:XW K ⟨t.c,K,lms⟩ UB "least"
 fl_low:XW K ⟨t.c,K,lms⟩ Up "low"
 fl_mark:XW K ⟨t.c,K,lms⟩ Vf "mark"
 fl_marks:XW K ⟨t.c,K,lms⟩ fc_marks "marks"
 fl_most:XW K ⟨t.c,K,lms⟩ Xw "most"
 fl_row:XW K ⟨t.c,K,lms⟩ ZgD "row"
 fl_rules:XW K ⟨t.c,K,lms⟩ Jy "rules"
 fl_word:XW K ⟨t.c,K,lms⟩ U8 "word"
 fl_worths:XW K ⟨t.c,K,lms⟩ Uq "worths"
 g_BadRule:mg "BadRule" = some (.ref t.c_BadRule)
 ex_BadRule:ExCls K t.c_BadRule
 xm_BadRule:∀c∈(["BadRule"]:List String),ExCls K (t.c c)/\PySem.W.exmOne K (.ref (t.c c)) (.ref t.c_BadRule)=some true
 me_All_rules_told:Meth K t.c_All (Str.ofString "rules_told") t.a_QB
 cm_Rule_init:CMeth K t.c_Rule "__init__" t.a_QX
 isi_Alike:IsiOk K ⟨t.c,K,lms⟩ (.ref t.c_Alike) QG
 isi_All:IsiOk K ⟨t.c,K,lms⟩ (.ref t.c_All) U9
 isi_Gap:IsiOk K ⟨t.c,K,lms⟩ (.ref t.c_Gap) QH
 isi_Never:IsiOk K ⟨t.c,K,lms⟩ (.ref t.c_Never) QI
 isi_Sum:IsiOk K ⟨t.c,K,lms⟩ (.ref t.c_Sum) QJ
 isi_Turn:IsiOk K ⟨t.c,K,lms⟩ (.ref t.c_Turn) QK
 isi_bool:IsiOk K ⟨t.c,K,lms⟩ (.type "bool") QL
 isi_int:IsiOk K ⟨t.c,K,lms⟩ (.type "int") Jz
 isi_str:IsiOk K ⟨t.c,K,lms⟩ (.type "str") Zc3
 isi_tuple:IsiOk K ⟨t.c,K,lms⟩ (.type "tuple") JA
end K09
namespace K09
open PySem PySem.W L2 HT
def kP:Params->PySem.W.Frag:=λP=>
 (nat_lit 2,dO .none [] 0) ::
 (nat_lit 3,dO (.type "dict") [de P "__name__" 165 (.str "law_grooveway_k09_whole_pages_there_and_back" 776),de P "__doc__" 166 .none,de P "__package__" 167 .none,de P "__loader__" 168 (.builtin "__main__.__loader__#opaque"),de P "__spec__" 169 .none,de P "__annotations__" 170 (.ref 6),de P "__builtins__" 171 (.ref 4),de P "__file__" 173 (.str "/claim/cut.py" 172),de P "__cached__" 174 .none,de P "_wall" 193 (.ref 21),de P "GrooveError" 213 (.ref 31),de P "BadMarks" 229 (.ref 44),de P "BadRule" 245 (.ref 56),de P "BadMark" 261 (.ref 68),de P "BadRow" 286 (.ref 87),de P "MARK_SIGNS" 290 (.str "abcdefghijklmnopqrstuvwxyz0123456789" 289),de P "marks_stand" 296 (.ref 94),de P "is_mark" 304 (.ref 101),de P "is_whole" 313 (.ref 108),de P "demand" 321 (.ref 115),de P "Rule" 391 (.ref 167),de P "Gap" 437 (.ref 203),de P "Never" 471 (.ref 227),de P "Sum" 506 (.ref 251),de P "Turn" 545 (.ref 277),de P "Alike" 589 (.ref 310),de P "All" 639 (.ref 348),de P "FIGURES" 643 (.str "0123456789" 642),de P "words_in" 649 (.ref 355),de P "rows_of" 660 (.ref 362),de P "whole_in" 666 (.ref 367),de P "number_in" 673 (.ref 374),de P "signed_in" 681 (.ref 381),de P "gap_maker" 691 (.ref 388),de P "never_maker" 699 (.ref 395),de P "sum_maker" 705 (.ref 400),de P "turn_maker" 715 (.ref 407),de P "alike_maker" 723 (.ref 414),de P "MAKERS" 734 (.ref 415),de P "rule_maker" 742 (.ref 422),de P "marks_told" 750 (.ref 429),de P "read_rules" 756 (.ref 434),de P "rule_words" 762 (.ref 439),de P "rule_row" 769 (.ref 446),de P "rules_page" 775 (.ref 451),de P "_law_cell_at" 785 (.ref 458),de P "_law_marks" 791 (.ref 463),de P "_law_rule" 797 (.ref 468),de P "_law_made" 805 (.ref 475),de P "_law_row_words" 811 (.ref 480),de P "_law_values" 818 (.ref 487),de P "_law_same" 827 (.ref 494),de P "_law_rules" 833 (.ref 499),de P "_law_refused" 841 (.ref 506),de P "_law_page_refused" 849 (.ref 513),de P "law" 855 (.ref 518)] 56) ::
 (nat_lit 20,c3 "_wall" "_wall" 187 1 1 3 15 16 (.ref 17) (.ref 18) 19 191 192) ::
 (nat_lit 30,dO (.type "dict") [de P "__module__" 203 (.str "grooveway.errors" 194),de P "__firstlineno__" 207 (.int 5 206),de P "__static_attributes__" 208 (.ref 29),de P "__weakref__" 210 (.ref 32),de P "__doc__" 211 .none] 3) ::
 (nat_lit 31,⟨(.type "type"),none,.cls ⟨"GrooveError",[(.type "ValueError")],[(.ref 31),(.type "ValueError"),(.type "Exception"),(.type "BaseException"),(.type "object")],30, "GrooveError",true,[],[(.ref 44),(.ref 56),(.ref 68),(.ref 87)],false,none,false⟩,#[some (.ref 22),none,some (.str "GrooveError" 196),some (.str "GrooveError" 204),some (.builtin "ValueError.__new__"),some (.bool true)]⟩) ::
 (nat_lit 32,⟨(.type "getset_descriptor"),none,.fields #[(.str "__weakref__" 209),(.ref 31),(.builtin "ExceptionGroup.__weakref__"),.none],#[]⟩) ::
 (nat_lit 43,x3 P "grooveway.errors" 194 221 225 7 224 226 42 227 2) ::
 (nat_lit 44,k3 "BadMarks" 44 31 43 35 214 222) ::
 (nat_lit 55,x3 P "grooveway.errors" 194 237 241 9 240 242 54 243 2) ::
 (nat_lit 56,k3 "BadRule" 56 31 55 47 230 238) ::
 (nat_lit 67,x3 P "grooveway.errors" 194 253 257 11 256 258 66 259 2) ::
 (nat_lit 68,k3 "BadMark" 68 31 67 59 246 254) ::
 (nat_lit 83,c3 "__init__" "BadRow.__init__" 274 15 2 3 78 79 (.ref 80) (.ref 81) 82 279 280) ::
 (nat_lit 86,dO (.type "dict") [de P "__module__" 269 (.str "grooveway.errors" 194),de P "__firstlineno__" 273 (.int 13 272),de P "__init__" 281 (.ref 84),de P "__static_attributes__" 283 (.ref 85),de P "__doc__" 284 .none] 2) ::
 (nat_lit 87,k3 "BadRow" 87 31 86 71 262 270) ::
 (nat_lit 93,c3 "marks_stand" "marks_stand" 291 20 1 3 90 91 .none .none 92 294 295) ::
 (nat_lit 94,f3 "marks_stand" "marks_stand" JJ "grooveway.rules" 287 93) ::
 (nat_lit 100,c3 "is_mark" "is_mark" 297 24 2 3 95 96 (.ref 97) (.ref 98) 99 302 303) ::
 (nat_lit 101,f3 "is_mark" "is_mark" Zjy "grooveway.rules" 287 100) ::
 (nat_lit 107,c3 "is_whole" "is_whole" 305 26 3 3 102 103 (.ref 104) (.ref 105) 106 311 312) ::
 (nat_lit 108,f3 "is_whole" "is_whole" Zjz "grooveway.rules" 287 107) ::
 (nat_lit 114,c3 "demand" "demand" 314 30 2 3 109 110 (.ref 111) (.ref 112) 113 319 320) ::
 (nat_lit 115,f3 "demand" "demand" ZjA "grooveway.rules" 287 114) ::
 (nat_lit 128,c3 "__init__" "Rule.__init__" 334 35 2 3 123 124 (.ref 125) (.ref 126) 127 339 340) ::
 (nat_lit 129,f3 "__init__" "Rule.__init__" ZjB "grooveway.rules" 287 128) ::
 (nat_lit 135,c3 "begin" "Rule.begin" 342 40 1 3 130 131 (.ref 132) (.ref 133) 134 346 347) ::
 (nat_lit 142,c3 "step" "Rule.step" 349 43 3 3 137 138 (.ref 139) (.ref 140) 141 355 356) ::
 (nat_lit 149,c3 "behind" "Rule.behind" 358 48 3 3 144 145 (.ref 146) (.ref 147) 148 364 365) ::
 (nat_lit 156,c3 "broken_at" "Rule.broken_at" 367 51 2 3 151 152 (.ref 153) (.ref 154) 155 372 373) ::
 (nat_lit 163,c3 "keeps" "Rule.keeps" 375 54 2 3 158 159 (.ref 160) (.ref 161) 162 380 381) ::
 (nat_lit 166,dO (.type "dict") [de P "__module__" 329 (.str "grooveway.rules" 287),de P "__firstlineno__" 333 (.int 33 332),de P "__init__" 341 (.ref 129),de P "begin" 348 (.ref 136),de P "step" 357 (.ref 143),de P "behind" 366 (.ref 150),de P "broken_at" 374 (.ref 157),de P "keeps" 382 (.ref 164),de P "__static_attributes__" 384 (.ref 165),de P "__dict__" 386 (.ref 168),de P "__weakref__" 388 (.ref 169),de P "__doc__" 389 .none] 4) ::
 (nat_lit 167,⟨(.type "type"),none,.cls ⟨"Rule",[(.type "object")],[(.ref 167),(.type "object")],166, "Rule",true,[],[(.ref 203),(.ref 227),(.ref 251),(.ref 277),(.ref 310),(.ref 348)],false,none,false⟩,#[none,none,some (.str "Rule" 322),some (.str "Rule" 330),some (.builtin "object.__new__"),some (.bool true)]⟩) ::
 (nat_lit 168,⟨(.type "getset_descriptor"),none,.fields #[(.str "__dict__" 385),(.ref 167),(.builtin "function.__dict__"),(.builtin "function.__dict__#set")],#[]⟩) ::
 (nat_lit 169,⟨(.type "getset_descriptor"),none,.fields #[(.str "__weakref__" 387),(.ref 167),(.builtin "ExceptionGroup.__weakref__"),.none],#[]⟩) ::
 (nat_lit 179,⟨(.type "tuple"),none,.seq #[.none] 0,#[]⟩) ::
 (nat_lit 185,c3 "__init__" "Gap.__init__" 404 58 5 3 180 181 (.ref 182) (.ref 183) 184 412 413) ::
 (nat_lit 186,fO "__init__" "Gap.__init__" Ur (.ref 179) .none .none (.str "grooveway.rules" 287) none (.ref 185) .none) ::
 (nat_lit 192,c3 "begin" "Gap.begin" 415 67 1 3 187 188 (.ref 189) (.ref 190) 191 419 420) ::
 (nat_lit 199,c3 "behind" "Gap.behind" 422 70 3 3 194 195 (.ref 196) (.ref 197) 198 428 429) ::
 (nat_lit 202,dO (.type "dict") [de P "__module__" 399 (.str "grooveway.rules" 287),de P "__firstlineno__" 403 (.int 56 402),de P "__init__" 414 (.ref 186),de P "begin" 421 (.ref 193),de P "behind" 430 (.ref 200),de P "__static_attributes__" 434 (.ref 201),de P "__doc__" 435 .none] 2) ::
 (nat_lit 203,⟨(.type "type"),none,.cls ⟨"Gap",[(.ref 167)],[(.ref 203),(.ref 167),(.type "object")],202, "Gap",true,[],[],false,none,false⟩,#[some (.ref 172),none,some (.str "Gap" 392),some (.str "Gap" 400),some (.builtin "object.__new__"),some (.bool true)]⟩) ::
 (nat_lit 216,c3 "__init__" "Never.__init__" 450 78 3 3 213 214 .none .none 215 453 454) ::
 (nat_lit 217,f3 "__init__" "Never.__init__" JK "grooveway.rules" 287 216) ::
 (nat_lit 223,c3 "behind" "Never.behind" 456 84 3 3 218 219 (.ref 220) (.ref 221) 222 464 465) ::
 (nat_lit 226,dO (.type "dict") [de P "__module__" 445 (.str "grooveway.rules" 287),de P "__firstlineno__" 449 (.int 76 448),de P "__init__" 455 (.ref 217),de P "behind" 466 (.ref 224),de P "__static_attributes__" 468 (.ref 225),de P "__doc__" 469 .none] 2) ::
 (nat_lit 227,⟨(.type "type"),none,.cls ⟨"Never",[(.ref 167)],[(.ref 227),(.ref 167),(.type "object")],226, "Never",true,[],[],false,none,false⟩,#[some (.ref 206),none,some (.str "Never" 438),some (.str "Never" 446),some (.builtin "object.__new__"),some (.bool true)]⟩) ::
 (nat_lit 240,c3 "__init__" "Sum.__init__" 484 94 5 3 237 238 .none .none 239 487 488) ::
 (nat_lit 241,f3 "__init__" "Sum.__init__" JL "grooveway.rules" 287 240) ::
 (nat_lit 247,c3 "behind" "Sum.behind" 490 104 3 3 242 243 (.ref 244) (.ref 245) 246 497 498) ::
 (nat_lit 250,dO (.type "dict") [de P "__module__" 479 (.str "grooveway.rules" 287),de P "__firstlineno__" 483 (.int 92 482),de P "__init__" 489 (.ref 241),de P "behind" 499 (.ref 248),de P "__static_attributes__" 503 (.ref 249),de P "__doc__" 504 .none] 2) ::
 (nat_lit 251,⟨(.type "type"),none,.cls ⟨"Sum",[(.ref 167)],[(.ref 251),(.ref 167),(.type "object")],250, "Sum",true,[],[],false,none,false⟩,#[some (.ref 230),none,some (.str "Sum" 472),some (.str "Sum" 480),some (.builtin "object.__new__"),some (.bool true)]⟩) ::
 (nat_lit 266,c3 "__init__" "Turn.__init__" 519 109 5 3 261 262 (.ref 263) (.ref 264) 265 527 528) ::
 (nat_lit 267,f3 "__init__" "Turn.__init__" ZjC "grooveway.rules" 287 266) ::
 (nat_lit 273,c3 "behind" "Turn.behind" 530 118 3 3 268 269 (.ref 270) (.ref 271) 272 536 537) ::
 (nat_lit 276,dO (.type "dict") [de P "__module__" 514 (.str "grooveway.rules" 287),de P "__firstlineno__" 518 (.int 107 517),de P "__init__" 529 (.ref 267),de P "behind" 538 (.ref 274),de P "__static_attributes__" 542 (.ref 275),de P "__doc__" 543 .none] 2) ::
 (nat_lit 277,⟨(.type "type"),none,.cls ⟨"Turn",[(.ref 167)],[(.ref 277),(.ref 167),(.type "object")],276, "Turn",true,[],[],false,none,false⟩,#[some (.ref 254),none,some (.str "Turn" 507),some (.str "Turn" 515),some (.builtin "object.__new__"),some (.bool true)]⟩) ::
 (nat_lit 292,c3 "__init__" "Alike.__init__" 558 124 3 3 287 288 (.ref 289) (.ref 290) 291 564 565) ::
 (nat_lit 293,f3 "__init__" "Alike.__init__" ZjD "grooveway.rules" 287 292) ::
 (nat_lit 299,c3 "begin" "Alike.begin" 567 129 1 3 294 295 (.ref 296) (.ref 297) 298 571 572) ::
 (nat_lit 306,c3 "behind" "Alike.behind" 574 132 3 3 301 302 (.ref 303) (.ref 304) 305 582 583) ::
 (nat_lit 309,dO (.type "dict") [de P "__module__" 553 (.str "grooveway.rules" 287),de P "__firstlineno__" 557 (.int 122 556),de P "__init__" 566 (.ref 293),de P "begin" 573 (.ref 300),de P "behind" 584 (.ref 307),de P "__static_attributes__" 586 (.ref 308),de P "__doc__" 587 .none] 2) ::
 (nat_lit 310,⟨(.type "type"),none,.cls ⟨"Alike",[(.ref 167)],[(.ref 310),(.ref 167),(.type "object")],309, "Alike",true,[],[],false,none,false⟩,#[some (.ref 280),none,some (.str "Alike" 546),some (.str "Alike" 554),some (.builtin "object.__new__"),some (.bool true)]⟩) ::
 (nat_lit 323,c3 "__init__" "All.__init__" 602 138 3 3 320 321 .none .none 322 605 606) ::
 (nat_lit 324,f3 "__init__" "All.__init__" QT "grooveway.rules" 287 323) ::
 (nat_lit 330,c3 "begin" "All.begin" 608 145 1 3 325 326 (.ref 327) (.ref 328) 329 612 613) ::
 (nat_lit 337,c3 "behind" "All.behind" 615 148 3 3 332 333 (.ref 334) (.ref 335) 336 625 626) ::
 (nat_lit 344,c3 "rules_told" "All.rules_told" 628 157 1 3 339 340 (.ref 341) (.ref 342) 343 632 633) ::
 (nat_lit 345,f3 "rules_told" "All.rules_told" ZjE "grooveway.rules" 287 344) ::
 (nat_lit 347,dO (.type "dict") [de P "__module__" 597 (.str "grooveway.rules" 287),de P "__firstlineno__" 601 (.int 136 600),de P "__init__" 607 (.ref 324),de P "begin" 614 (.ref 331),de P "behind" 627 (.ref 338),de P "rules_told" 634 (.ref 345),de P "__static_attributes__" 636 (.ref 346),de P "__doc__" 637 .none] 2) ::
 (nat_lit 348,⟨(.type "type"),none,.cls ⟨"All",[(.ref 167)],[(.ref 348),(.ref 167),(.type "object")],347, "All",true,[],[],false,none,false⟩,#[some (.ref 313),none,some (.str "All" 590),some (.str "All" 598),some (.builtin "object.__new__"),some (.bool true)]⟩) ::
 (nat_lit 354,c3 "words_in" "words_in" 644 161 1 3 351 352 .none .none 353 647 648) ::
 (nat_lit 355,f3 "words_in" "words_in" JM "grooveway.pages" 640 354) ::
 (nat_lit 361,c3 "rows_of" "rows_of" 650 164 1 3 356 357 (.ref 358) (.ref 359) 360 658 659) ::
 (nat_lit 362,f3 "rows_of" "rows_of" ZjF "grooveway.pages" 640 361) ::
 (nat_lit 366,c3 "whole_in" "whole_in" 661 171 2 3 363 364 .none .none 365 664 665) ::
 (nat_lit 367,f3 "whole_in" "whole_in" JN "grooveway.pages" 640 366) ::
 (nat_lit 373,c3 "number_in" "number_in" 667 179 1 3 368 369 (.ref 370) (.ref 371) 372 671 672) ::
 (nat_lit 374,f3 "number_in" "number_in" ZjG "grooveway.pages" 640 373) ::
 (nat_lit 380,c3 "signed_in" "signed_in" 674 181 1 3 375 376 (.ref 377) (.ref 378) 379 679 680) ::
 (nat_lit 381,f3 "signed_in" "signed_in" ZjH "grooveway.pages" 640 380) ::
 (nat_lit 387,c3 "gap_maker" "gap_maker" 682 186 1 3 382 383 (.ref 384) (.ref 385) 386 689 690) ::
 (nat_lit 388,f3 "gap_maker" "gap_maker" VH "grooveway.pages" 640 387) ::
 (nat_lit 394,c3 "never_maker" "never_maker" 692 194 1 3 389 390 (.ref 391) (.ref 392) 393 697 698) ::
 (nat_lit 395,f3 "never_maker" "never_maker" VL "grooveway.pages" 640 394) ::
 (nat_lit 399,c3 "sum_maker" "sum_maker" 700 198 1 3 396 397 .none .none 398 703 704) ::
 (nat_lit 400,f3 "sum_maker" "sum_maker" Vp "grooveway.pages" 640 399) ::
 (nat_lit 406,c3 "turn_maker" "turn_maker" 706 205 1 3 401 402 (.ref 403) (.ref 404) 405 713 714) ::
 (nat_lit 407,f3 "turn_maker" "turn_maker" VM "grooveway.pages" 640 406) ::
 (nat_lit 413,c3 "alike_maker" "alike_maker" 716 213 1 3 408 409 (.ref 410) (.ref 411) 412 721 722) ::
 (nat_lit 414,f3 "alike_maker" "alike_maker" VN "grooveway.pages" 640 413) ::
 (nat_lit 415,dO (.type "dict") [de P "gap" 724 (.ref 388),de P "never" 725 (.ref 395),de P "sum" 726 (.ref 400),de P "turn" 727 (.ref 407),de P "alike" 728 (.ref 414)] 5) ::
 (nat_lit 421,c3 "rule_maker" "rule_maker" 735 221 1 3 416 417 (.ref 418) (.ref 419) 420 740 741) ::
 (nat_lit 422,f3 "rule_maker" "rule_maker" ZjI "grooveway.pages" 640 421) ::
 (nat_lit 428,c3 "marks_told" "marks_told" 743 226 1 3 423 424 (.ref 425) (.ref 426) 427 748 749) ::
 (nat_lit 429,f3 "marks_told" "marks_told" ZjJ "grooveway.pages" 640 428) ::
 (nat_lit 433,c3 "read_rules" "read_rules" 751 233 1 3 430 431 .none .none 432 754 755) ::
 (nat_lit 434,f3 "read_rules" "read_rules" JO "grooveway.pages" 640 433) ::
 (nat_lit 438,c3 "rule_words" "rule_words" 757 243 1 3 435 436 .none .none 437 760 761) ::
 (nat_lit 439,f3 "rule_words" "rule_words" JP "grooveway.pages" 640 438) ::
 (nat_lit 445,c3 "rule_row" "rule_row" 763 256 1 3 440 441 (.ref 442) (.ref 443) 444 767 768) ::
 (nat_lit 446,f3 "rule_row" "rule_row" ZjK "grooveway.pages" 640 445) ::
 (nat_lit 450,c3 "rules_page" "rules_page" 770 258 1 3 447 448 .none .none 449 773 774) ::
 (nat_lit 451,f3 "rules_page" "rules_page" JQ "grooveway.pages" 640 450) ::
 (nat_lit 457,c3 "_law_cell_at" "_law_cell_at" 778 262 2 3 452 453 (.ref 454) (.ref 455) 456 783 784) ::
 (nat_lit 458,f3 "_law_cell_at" "_law_cell_at" ZjL "law_grooveway_k09_whole_pages_there_and_back" 776 457) ::
 (nat_lit 462,c3 "_law_marks" "_law_marks" 786 266 1 3 459 460 .none .none 461 789 790) ::
 (nat_lit 463,f3 "_law_marks" "_law_marks" JR "law_grooveway_k09_whole_pages_there_and_back" 776 462) ::
 (nat_lit 467,c3 "_law_rule" "_law_rule" 792 270 5 3 464 465 .none .none 466 795 796) ::
 (nat_lit 468,f3 "_law_rule" "_law_rule" JS "law_grooveway_k09_whole_pages_there_and_back" 776 467) ::
 (nat_lit 474,c3 "_law_made" "_law_made" 798 287 2 3 469 470 (.ref 471) (.ref 472) 473 803 804) ::
 (nat_lit 475,f3 "_law_made" "_law_made" ZjM "law_grooveway_k09_whole_pages_there_and_back" 776 474) ::
 (nat_lit 479,c3 "_law_row_words" "_law_row_words" 806 299 1 3 476 477 .none .none 478 809 810) ::
 (nat_lit 480,f3 "_law_row_words" "_law_row_words" QU "law_grooveway_k09_whole_pages_there_and_back" 776 479) ::
 (nat_lit 486,c3 "_law_values" "_law_values" 812 308 1 3 481 482 (.ref 483) (.ref 484) 485 816 817) ::
 (nat_lit 487,f3 "_law_values" "_law_values" ZjN "law_grooveway_k09_whole_pages_there_and_back" 776 486) ::
 (nat_lit 493,c3 "_law_same" "_law_same" 819 320 2 3 488 489 (.ref 490) (.ref 491) 492 825 826) ::
 (nat_lit 494,f3 "_law_same" "_law_same" ZjO "law_grooveway_k09_whole_pages_there_and_back" 776 493) ::
 (nat_lit 498,c3 "_law_rules" "_law_rules" 828 333 2 3 495 496 .none .none 497 831 832) ::
 (nat_lit 499,f3 "_law_rules" "_law_rules" JT "law_grooveway_k09_whole_pages_there_and_back" 776 498) ::
 (nat_lit 505,c3 "_law_refused" "_law_refused" 834 339 1 3 500 501 (.ref 502) (.ref 503) 504 839 840) ::
 (nat_lit 506,f3 "_law_refused" "_law_refused" ZjP "law_grooveway_k09_whole_pages_there_and_back" 776 505) ::
 (nat_lit 512,c3 "_law_page_refused" "_law_page_refused" 842 346 1 3 507 508 (.ref 509) (.ref 510) 511 847 848) ::
 (nat_lit 513,f3 "_law_page_refused" "_law_page_refused" ZjQ "law_grooveway_k09_whole_pages_there_and_back" 776 512) ::
 (nat_lit 517,c3 "law" "law" 850 353 1 3 514 515 .none .none 516 853 854) ::
 (nat_lit 518,f3 "law" "law" QV "law_grooveway_k09_whole_pages_there_and_back" 776 517) ::
 (nat_lit 4,⟨(.type "module"),some 0,.plain,#[]⟩) ::
 (nat_lit 3,⟨(.str "gap_maker.<locals>.<lambda>" 0),some 383,.plain,#[]⟩) ::
 (nat_lit 3,⟨(.str "never_maker.<locals>.<lambda>" 0),some 390,.plain,#[]⟩) ::
 (nat_lit 3,⟨(.str "sum_maker.<locals>.<lambda>" 0),some 397,.plain,#[]⟩) ::
 (nat_lit 3,⟨(.str "turn_maker.<locals>.<lambda>" 0),some 402,.plain,#[]⟩) ::
 (nat_lit 3,⟨(.str "alike_maker.<locals>.<lambda>" 0),some 409,.plain,#[]⟩)::[]
abbrev kA:Params->PySem.W.Frag:=λP=>(kP P).take 126++[(383,tabObj #[]),(390,tabObj #[]),(397,tabObj #[]),(402,tabObj #[]),(409,tabObj #[])]
set_option maxHeartbeats 0 in
theorem Zh0:met PySem.Challenge.pw_grooveway_k09_whole_pages_there_and_back=true:=by k_qdec
set_option maxHeartbeats 0 in
theorem Zh1:met kP=true:=by k_qdec
set_option maxHeartbeats 0 in
theorem Zll:∀w:World,U3 PySem.Challenge.pw_grooveway_k09_whole_pages_there_and_back (view PySem.Challenge.pw_grooveway_k09_whole_pages_there_and_back [0,2,3,4,5,6,8,9,10,11,12,13,14,15,16,17,18,19,21,22,23,24,25,26,27,28,29,30,31,32,33,34,35,36,37,38,40,41,42,43,44,45,46,47,48,49,50]) ["Gap", "MAKERS"] (λs=>xlAt (view PySem.Challenge.pw_grooveway_k09_whole_pages_there_and_back [0,2,3,4,5,6,8,9,10,11,12,13,14,15,16,17,18,19,21,22,23,24,25,26,27,28,29,30,31,32,33,34,35,36,37,38,40,41,42,43,44,45,46,47,48,49,50]) [] s&&recOk PySem.Challenge.rw_grooveway_k09_whole_pages_there_and_back.row.toRowW.records s) (λs=>([2,3,20,30,31,32,43,44,55,56,67,68,83,86,87,93,94,100,101,107,108,114,115,128,129,135,142,149,156,163,166,167,168,169,179,185,186,192,199,202,203,216,217,223,226,227,240,241,247,250,251,266,267,273,276,277,292,293,299,306,309,310,323,324,330,337,344,345,347,348,354,355,361,362,366,367,373,374,380,381,387,388,394,395,399,400,406,407,413,414,415,421,422,428,429,433,434,438,439,445,446,450,451,457,458,462,463,467,468,474,475,479,480,486,487,493,494,498,499,505,506,512,513,517,518,4,383,390,397,402,409]:List Addr).map s.heap.get?) (λw=>((kP w.params).take 126++[(383,tabObj #[]),(390,tabObj #[]),(397,tabObj #[]),(402,tabObj #[]),(409,tabObj #[])]:PySem.W.Frag).map λp=>some p.2) 8760 (w.withFollow "special-get-raises" false):=λw=>by
 have _:=Zh0;have _:=Zh1;unfold U3;rewrite [PySem.W.Fast.te16445191125094716814,PySem.W.Fast.te695833116336249685,PySem.W.Fast.te5923862056798008813,PySem.W.Fast.te4187177175401517315,PySem.W.Fast.te6613529449190102663,PySem.W.Fast.te10156331382660048174,PySem.W.Fast.te11892475500146522536,PySem.W.Fast.te14364793385576792824]
 kernel_rfl
set_option maxHeartbeats 0 in
theorem Zlm:∀w:World,U3 PySem.Challenge.pw_grooveway_k09_whole_pages_there_and_back (view PySem.Challenge.pw_grooveway_k09_whole_pages_there_and_back [0,2,3,4,5,6,8,9,10,11,12,13,14,15,16,17,18,19,21,22,23,24,25,26,27,28,29,30,31,32,33,34,35,36,37,38,40,41,42,43,44,45,46,47,48,49,50]) ["Gap", "MAKERS"] (λs=>xlAt (view PySem.Challenge.pw_grooveway_k09_whole_pages_there_and_back [0,2,3,4,5,6,8,9,10,11,12,13,14,15,16,17,18,19,21,22,23,24,25,26,27,28,29,30,31,32,33,34,35,36,37,38,40,41,42,43,44,45,46,47,48,49,50]) [] s&&recOk PySem.Challenge.rw_grooveway_k09_whole_pages_there_and_back.row.toRowW.records s) (λs=>([2,3,20,30,31,32,43,44,55,56,67,68,83,86,87,93,94,100,101,107,108,114,115,128,129,135,142,149,156,163,166,167,168,169,179,185,186,192,199,202,203,216,217,223,226,227,240,241,247,250,251,266,267,273,276,277,292,293,299,306,309,310,323,324,330,337,344,345,347,348,354,355,361,362,366,367,373,374,380,381,387,388,394,395,399,400,406,407,413,414,415,421,422,428,429,433,434,438,439,445,446,450,451,457,458,462,463,467,468,474,475,479,480,486,487,493,494,498,499,505,506,512,513,517,518,4,383,390,397,402,409]:List Addr).map s.heap.get?) (λw=>((kP w.params).take 126++[(383,tabObj #[]),(390,tabObj #[]),(397,tabObj #[]),(402,tabObj #[]),(409,tabObj #[])]:PySem.W.Frag).map λp=>some p.2) 8760 (w.withFollow "special-get-raises" true):=λw=>by
 have _:=Zh0;have _:=Zh1;unfold U3;rewrite [PySem.W.Fast.te16445191125094716814,PySem.W.Fast.te695833116336249685,PySem.W.Fast.te5923862056798008813,PySem.W.Fast.te4187177175401517315,PySem.W.Fast.te6613529449190102663,PySem.W.Fast.te10156331382660048174,PySem.W.Fast.te11892475500146522536,PySem.W.Fast.te14364793385576792824]
 kernel_rfl
theorem left:LeftO PySem.Challenge.pw_grooveway_k09_whole_pages_there_and_back (view PySem.Challenge.pw_grooveway_k09_whole_pages_there_and_back [0,2,3,4,5,6,8,9,10,11,12,13,14,15,16,17,18,19,21,22,23,24,25,26,27,28,29,30,31,32,33,34,35,36,37,38,40,41,42,43,44,45,46,47,48,49,50]) ["Gap", "MAKERS"] (λs=>xlAt (view PySem.Challenge.pw_grooveway_k09_whole_pages_there_and_back [0,2,3,4,5,6,8,9,10,11,12,13,14,15,16,17,18,19,21,22,23,24,25,26,27,28,29,30,31,32,33,34,35,36,37,38,40,41,42,43,44,45,46,47,48,49,50]) [] s&&recOk PySem.Challenge.rw_grooveway_k09_whole_pages_there_and_back.row.toRowW.records s) (λs=>([2,3,20,30,31,32,43,44,55,56,67,68,83,86,87,93,94,100,101,107,108,114,115,128,129,135,142,149,156,163,166,167,168,169,179,185,186,192,199,202,203,216,217,223,226,227,240,241,247,250,251,266,267,273,276,277,292,293,299,306,309,310,323,324,330,337,344,345,347,348,354,355,361,362,366,367,373,374,380,381,387,388,394,395,399,400,406,407,413,414,415,421,422,428,429,433,434,438,439,445,446,450,451,457,458,462,463,467,468,474,475,479,480,486,487,493,494,498,499,505,506,512,513,517,518,4,383,390,397,402,409]:List Addr).map s.heap.get?) (λw=>((kP w.params).take 126++[(383,tabObj #[]),(390,tabObj #[]),(397,tabObj #[]),(402,tabObj #[]),(409,tabObj #[])]:PySem.W.Frag).map λp=>some p.2) 8760:=
 HT.left_split "special-get-raises" rfl rfl (λ_=>rfl) Zll Zlm
theorem kA_as:∀P,([2,3,20,30,31,32,43,44,55,56,67,68,83,86,87,93,94,100,101,107,108,114,115,128,129,135,142,149,156,163,166,167,168,169,179,185,186,192,199,202,203,216,217,223,226,227,240,241,247,250,251,266,267,273,276,277,292,293,299,306,309,310,323,324,330,337,344,345,347,348,354,355,361,362,366,367,373,374,380,381,387,388,394,395,399,400,406,407,413,414,415,421,422,428,429,433,434,438,439,445,446,450,451,457,458,462,463,467,468,474,475,479,480,486,487,493,494,498,499,505,506,512,513,517,518,4,383,390,397,402,409]:List Addr)=(kA P).map (·.1):=λ_=>by kernel_rfl
abbrev tabs:List (Addr×Str):=[(383,("gap_maker.<locals>.<lambda>" : Str)),(390,("never_maker.<locals>.<lambda>" : Str)),(397,("sum_maker.<locals>.<lambda>" : Str)),(402,("turn_maker.<locals>.<lambda>" : Str)),(409,("alike_maker.<locals>.<lambda>" : Str))]
theorem kP_tabs:∀P,Xe (kP P)=tabs:=λ_=>by kernel_rfl
end K09
namespace K09
open PySem PySem.Spec PyProof.Rows L2 DL
theorem nd0:List.Nodup (["sign", "marks"]:List Str):=by decide +kernel
theorem nd1:List.Nodup (["worth"]:List Str):=by decide +kernel
theorem nd2:List.Nodup (["rule"]:List Str):=by decide +kernel
theorem nd3:List.Nodup (["rule", "marks"]:List Str):=by decide +kernel
theorem nd4:List.Nodup (["row", "said"]:List Str):=by decide +kernel
theorem nd5:List.Nodup (["word"]:List Str):=by decide +kernel
theorem nd6:List.Nodup (["page", "rows", "number", "row", "words"]:List Str):=by decide +kernel
theorem nd7:List.Nodup (["sign"]:List Str):=by decide +kernel
theorem nd8:List.Nodup (["word", "number"]:List Str):=by decide +kernel
theorem nd9:List.Nodup (["words", "least", "most"]:List Str):=by decide +kernel
theorem Zmo:List.Nodup (["words", "numbers"]:List Str):=by decide +kernel
theorem Zl8:List.Nodup (["words", "every", "at"]:List Str):=by decide +kernel
theorem Zmp:List.Nodup (["words", "most"]:List Str):=by decide +kernel
theorem Zmq:List.Nodup (["words", "maker_of"]:List Str):=by decide +kernel
theorem Zmr:List.Nodup (["rows", "words"]:List Str):=by decide +kernel
theorem QW:List.Nodup (["page", "rows", "marks", "makers", "number", "words", "maker"]:List Str):=by decide +kernel
theorem Zms:List.Nodup (["maker", "marks"]:List Str):=by decide +kernel
theorem Zkq:List.Nodup (["rule", "most"]:List Str):=by decide +kernel
theorem Zmt:List.Nodup (["rule", "rows"]:List Str):=by decide +kernel
theorem Zmu:List.Nodup (["each"]:List Str):=by decide +kernel
theorem Zl9:List.Nodup (["cell", "some", "step"]:List Str):=by decide +kernel
theorem Zmv:List.Nodup (["k", "some", "cell", "step"]:List Str):=by decide +kernel
theorem JV:List.Nodup (["marks", "kind", "one", "two", "three", "mark", "lowest", "size", "worths", "every"]:List Str):=by decide +kernel
theorem Zmw:List.Nodup (["k", "marks", "one"]:List Str):=by decide +kernel
theorem Zmx:List.Nodup (["part"]:List Str):=by decide +kernel
theorem Zmy:List.Nodup (["found", "due", "k"]:List Str):=by decide +kernel
theorem Zkr:List.Nodup (["script", "marks", "rules", "k", "cells"]:List Str):=by decide +kernel
theorem Zmz:List.Nodup (["step", "script", "k"]:List Str):=by decide +kernel
theorem ZjR:List.Nodup (["rule", "refused"]:List Str):=by decide +kernel
theorem VP:List.Nodup (["script", "marks", "rules", "made", "every", "rows", "k", "page", "found", "one"]:List Str):=by decide +kernel
section
variable{P:Program}{w:World}{K:PySem.W.Frag}{mg:Str->Option Value}{base:Heap}{t:Adr}
theorem Zln(T:Txt w K mg t):FnOk P w K mg base CX0 1 t.a_QI t.d_QI ["marks"] (spD ⟨t.c,K,lms⟩ 1 JB):=by
 refine YZ (φ:=Zi7) T.p_QI.f ZkI (by conv=>lhs;whnf) (by conv=>lhs;whnf) (λcdv A outer s H E hr => ?_) rfl rfl;refine⟨_,(Zn (ZP (PW.pt (X4 (Ye Zfl (ZN (Yu (K:=K)) (by rfl) T.n_len boot_len (Zc (pv 0) Zh)) Zl (Z2 _)) (Vr (Ye Zfm (ZN (Yu (K:=K)) (by rfl) T.n_len boot_len (Zc (pv 0) Zh)) Zl (Z2 _))))) (Zr (Zy VR)) ZO)
 (Zr (Zy (ZN (Jb (K:=K)) (by rfl) T.n_all boot_all (Zc (X0 (by rfl) (CompSd.mk1 (tn:=["sign"]) (cn:=["marks"]) (js:=[0]) (osc:=defScope JJ) (oN:=["marks"]) (by rfl) (by rfl) (by rfl) (by decide +kernel)) (XE (K:=K) (pv 0)) (λC s₂ H₂ fp=>YI (i:=0) nd0) (λC s₂ H₂ fp=>Xy) (λC s₂ H₂ fp=>(Q2 (Vi (Zfn (K:=K)) (pv 0) (XU (by rfl) T.g_MARK_SIGNS T.r_MARK_SIGNS) (by rfl)) (Q1 (Vi (Y5 (cA:=⟨t.c,K,lms⟩) (hr.units)) (XI (K:=K) PySem.F.plainAttrs_str PySem.F.slot_str_count PySem.F.type_str_count ZfM (pv 1) (Zc (pv 0) Zh)) Zl (Z2 _)))))) Zh))))),[],?_⟩
 unfold Zi7;exact(Zo (ZI (X8 (Yg (Zk Ug (ZL Yw (Ze (Zd 0) Zg)) (Zf (d:=(.int 2)) (by rfl) (by rfl)))) (Yg (Zk Ug (ZL Yw (Ze (Zd 0) Zg)) (Zf (d:=(.int 4)) (by rfl) (by rfl))))) (Zw (Zf (d:=(.bl false)) (by rfl) (by rfl))) ZH)
 (Zw (ZL Qn (Ze (VF.cl (Xj (by rfl) (Xq (Zd 0)) (YN 0) Xi (Jf (Zk Zfo (Zd 0) (Zf (d:=.str cs_MARK_SIGNS) (by rfl) (by rfl))) (Zk Y6 (Vz ZfN (Zd 1) (Ze (Zd 0) Zg)) (Zf (d:=(.int 1)) (by rfl) (by rfl)))))) Zg))))
theorem ZgT(T:Txt w K mg t):FnOk P w K mg base CX0 1 t.a_Q9 t.d_Q9 ["marks", "text"] (spD ⟨t.c,K,lms⟩ 2 Qa):=by
 refine YZ (φ:=Zi8) T.p_Q9.f ZkJ (by conv=>lhs;whnf) (by conv=>lhs;whnf) (λcdv A outer s H E hr => ?_) rfl rfl;refine⟨_,(Zr (Zy (Q2 (Vi (Y5 (cA:=⟨t.c,K,lms⟩) (hr.units)) (ZN (Yu (K:=K)) (by rfl) T.n_len boot_len (Zc (pv 1) Zh)) Zl (Z2 _)) (Q1 (Vi (Zfn (K:=K)) (pv 1) (pv 0) (by rfl)))))),[],?_⟩;unfold Zi8;exact(Zw (Jf (Zk Y6 (ZL Yw (Ze (Zd 1) Zg)) (Zf (d:=(.int 1)) (by rfl) (by rfl))) (Zk Zfo (Zd 1) (Zd 0))))
theorem Zfr(T:Txt w K mg t):FnOk P w K mg base CX0 1 t.a_Q2 t.d_Q2 ["number", "low", "high"] (spD ⟨t.c,K,lms⟩ 3 Vm):=by
 refine YZ (φ:=Zi9) T.p_Q2.f ZkK (by conv=>lhs;whnf) (by conv=>lhs;whnf) (λcdv A outer s H E hr => ?_) rfl rfl;refine⟨_,(Zn (ZP (PW.pt (X4 (YB (ZN (Xk (K:=K)) (by rfl) T.n_isinstance boot_isinstance (Zc (pv 0) (Zc (Uv (v:=.ty "bool") (by rfl) T.n_bool boot_bool rfl) Zh)))) (Vr (XH (YB (ZN (Xk (K:=K)) (by rfl) T.n_isinstance boot_isinstance (Zc (pv 0) (Zc (Uv (v:=.ty "int") (by rfl) T.n_int boot_int rfl) Zh)))))))) (Zr (Zy VR)) ZO)
 (Zr (Zy (Zc9 Q5 Q5 (pv 1) (pv 0) (pv 2))))),[],?_⟩
 unfold Zi9;exact(Zo (ZI (X8 (ZW (YO (λ_ h=>h) T.isi_bool (Zd 0))) (XM (ZW (YO (λ_ h=>h) T.isi_int (Zd 0))))) (Zw (Zf (d:=(.bl false)) (by rfl) (by rfl))) ZH)
 (Zw (Zde (Zd 1) (Zd 0) (Zd 2))))
theorem QX(T:Txt w K mg t):FnOk P w K mg base CX0 1 t.a_Qb t.d_Qb ["holds", "words"] (spD ⟨t.c,K,lms⟩ 2 Xo):=by
 refine YZ (φ:=Zja) T.p_Qb.f ZkL (by conv=>lhs;whnf) (by conv=>lhs;whnf) (λcdv A outer s H E hr => ?_) rfl rfl;refine⟨_,(Zr (ZP (XH (YB (pv 0))) (Zr Q3) ZO)),[],?_⟩;unfold Zja;exact(ZI (XM (ZW (Zd 0))) Qo ZH)
theorem Qc(T:Txt w K mg t):FnOk P w K mg base CX0 2 t.a_QX t.d_QX ["self", "marks"] (spI ⟨t.c,K,lms⟩ 2 XR):=by
 have G_QI:=(Zln (P:=P) (w:=w) (base:=base) T).mono (k:=1) (by decide);refine UX (φ:=Zjb) T.p_QX.f ZkM (by conv=>lhs;whnf) (by conv=>lhs;whnf) (λcdv A outer s H E self hr => ?_) rfl rfl;refine⟨_,(Zn (ZP (XH (YB (ZA (G_QI) hr (by rfl) T.p_QI.g T.p_QI.k T.p_QI.b .nil Zv (Zc (pv 1) Zh)))) (Zr Q3) ZO)
 (Zr (X5 (pv 0) (pv 1) (by rfl)))),?_⟩
 unfold Zjb;exact(Zo (ZI (XM (ZW (ZJ [] (by rfl) (Ze (Zd 1) Zg)))) Qo ZH)
 (Vc 0 (by rfl) T.fl_marks (Zd 1)))
theorem Zh2(T:Txt w K mg t):FnOk P w K mg base CX0 3 t.a_Q7 t.d_Q7 ["self", "marks", "mark", "least", "most"] (spI ⟨t.c,K,lms⟩ 5 UC):=by
 have G_QX:=(Qc (P:=P) (w:=w) (base:=base) T).mono (k:=2) (by decide);have G_Qb:=(QX (P:=P) (w:=w) (base:=base) T).mono (k:=2) (by decide);have G_Q9:=(ZgT (P:=P) (w:=w) (base:=base) T).mono (k:=2) (by decide);have G_Q2:=(Zfr (P:=P) (w:=w) (base:=base) T).mono (k:=2) (by decide);refine UX (φ:=f_Q7) T.f_Q7 ZkN (by conv=>lhs;whnf) (by conv=>lhs;whnf) (λcdv A outer s H E self hr => ?_) rfl rfl
 refine⟨_,(Zn (YH (Qu (by rfl) T.g_Rule T.cm_Rule_init G_QX hr T.p_QX.b .nil Zv (Zc (pv 0) (Zc (pv 1) Zh))))
 (Zn (YH (ZA (G_Qb) hr (by rfl) T.p_Qb.g T.p_Qb.k T.p_Qb.b .nil Zv (Zc (ZA (G_Q9) hr (by rfl) T.p_Q9.g T.p_Q9.k T.p_Q9.b .nil Zv (Zc (pv 1) (Zc (pv 2) Zh))) (Zc (ZG [97,32,71,97,112,39,115,32,109,97,114,107,32,105,115,32,111,110,101,32,111,102,32,116,104,101,32,109,97,114,107,115] (by decide +kernel)) Zh))))
 (Zn (YH (ZA (G_Qb) hr (by rfl) T.p_Qb.g T.p_Qb.k T.p_Qb.b .nil Zv (Zc (ZA (G_Q2) hr (by rfl) T.p_Q2.g T.p_Q2.k T.p_Q2.b .nil Zv (Zc (pv 3) (Zc Zl (Zc Zl Zh)))) (Zc (ZG [97,32,71,97,112,39,115,32,108,101,97,115,116,32,105,115,32,102,114,111,109,32,48,32,116,111,32,56] (by decide +kernel)) Zh))))
 (Zn (YH (ZA (G_Qb) hr (by rfl) T.p_Qb.g T.p_Qb.k T.p_Qb.b .nil Zv (Zc (Zku (Zgh (Vg (pv 4))) (Q1 (ZA (G_Q2) hr (by rfl) T.p_Q2.g T.p_Q2.k T.p_Q2.b .nil Zv (Zc (pv 4) (Zc (pv 3) (Zc Zl Zh)))))) (Zc (ZG [97,32,71,97,112,39,115,32,109,111,115,116,32,105,115,32,78,111,110,101,32,111,114,32,102,114,111,109,32,108,101,97,115,116,32,116,111,32,56] (by decide +kernel)) Zh))))
 (Zn (X5 (pv 0) (pv 2) (by rfl))
 (Zn (X5 (pv 0) (pv 3) (by rfl))
 (Zr (X5 (pv 0) (pv 4) (by rfl))))))))),?_⟩
 unfold f_Q7;exact(Zo (Qv 0 (by rfl) [] (by rfl) (Ze (Zd 1) Zg))
 (Zo (Xx (ZJ [] (by rfl) (Ze (ZJ [] (by rfl) (Ze (Zd 1) (Ze (Zd 2) Zg))) (Ze (Zf (d:=(.str [97,32,71,97,112,39,115,32,109,97,114,107,32,105,115,32,111,110,101,32,111,102,32,116,104,101,32,109,97,114,107,115])) (by rfl) (by rfl)) Zg))))
 (Zo (Xx (ZJ [] (by rfl) (Ze (ZJ [] (by rfl) (Ze (Zd 3) (Ze (Zf (d:=(.int 0)) (by rfl) (by rfl)) (Ze (Zf (d:=(.int 8)) (by rfl) (by rfl)) Zg)))) (Ze (Zf (d:=(.str [97,32,71,97,112,39,115,32,108,101,97,115,116,32,105,115,32,102,114,111,109,32,48,32,116,111,32,56])) (by rfl) (by rfl)) Zg))))
 (Zo (Xx (ZJ [] (by rfl) (Ze (ZkB (X9 (Zd 4)) (ZJ [] (by rfl) (Ze (Zd 4) (Ze (Zd 3) (Ze (Zf (d:=(.int 8)) (by rfl) (by rfl)) Zg))))) (Ze (Zf (d:=(.str [97,32,71,97,112,39,115,32,109,111,115,116,32,105,115,32,78,111,110,101,32,111,114,32,102,114,111,109,32,108,101,97,115,116,32,116,111,32,56])) (by rfl) (by rfl)) Zg))))
 (Zo (Vc 0 (by rfl) T.fl_mark (Zd 2))
 (Zo (Vc 0 (by rfl) T.fl_least (Zd 3))
 (Vc 0 (by rfl) T.fl_most (Zd 4))))))))
theorem Zh3(T:Txt w K mg t):FnOk P w K mg base CX0 3 t.a_QS t.d_QS ["self", "marks", "word"] (spI ⟨t.c,K,lms⟩ 3 QM):=by
 have G_QX:=(Qc (P:=P) (w:=w) (base:=base) T).mono (k:=2) (by decide);have G_Qb:=(QX (P:=P) (w:=w) (base:=base) T).mono (k:=2) (by decide);have G_Q9:=(ZgT (P:=P) (w:=w) (base:=base) T).mono (k:=2) (by decide);refine UX (φ:=Zjc) T.p_QS.f ZkO (by conv=>lhs;whnf) (by conv=>lhs;whnf) (λcdv A outer s H E self hr => ?_) rfl rfl;refine⟨_,(Zn (YH (Qu (by rfl) T.g_Rule T.cm_Rule_init G_QX hr T.p_QX.b .nil Zv (Zc (pv 0) (Zc (pv 1) Zh))))
 (Zn (YH (ZA (G_Qb) hr (by rfl) T.p_Qb.g T.p_Qb.k T.p_Qb.b .nil Zv (Zc (Zc9 Q5 Q5 Zl (ZN (Yu (K:=K)) (by rfl) T.n_len boot_len (Zc (pv 2) Zh)) Zl) (Zc (ZG [97,32,78,101,118,101,114,39,115,32,119,111,114,100,32,104,97,115,32,49,32,116,111,32,54,32,115,105,103,110,115] (by decide +kernel)) Zh))))
 (Zn (YH (ZA (G_Qb) hr (by rfl) T.p_Qb.g T.p_Qb.k T.p_Qb.b .nil Zv (Zc (ZN (Jb (K:=K)) (by rfl) T.n_all boot_all (Zc (X0 (by rfl) (CompSd.mk1 (tn:=["sign"]) (cn:=["marks"]) (js:=[1]) (osc:=defScope JK) (oN:=["self", "marks", "word"]) (by rfl) (by rfl) (by rfl) (by decide +kernel)) (XE (K:=K) (pv 2)) (λC s₂ H₂ fp=>YI (i:=0) nd0) (λC s₂ H₂ fp=>Xy) (λC s₂ H₂ fp=>(ZA (G_Q9) hr (by rfl) T.p_Q9.g T.p_Q9.k T.p_Q9.b .nil Zv (Zc (pv 1) (Zc (pv 0) Zh))))) Zh)) (Zc (ZG [97,32,78,101,118,101,114,39,115,32,119,111,114,100,32,105,115,32,111,102,32,109,97,114,107,115] (by decide +kernel)) Zh))))
 (Zr (X5 (pv 0) (pv 2) (by rfl)))))),?_⟩
 unfold Zjc;exact(Zo (Qv 0 (by rfl) [] (by rfl) (Ze (Zd 1) Zg))
 (Zo (Xx (ZJ [] (by rfl) (Ze (Zde (Zf (d:=(.int 1)) (by rfl) (by rfl)) (ZL Yw (Ze (Zd 2) Zg)) (Zf (d:=(.int 6)) (by rfl) (by rfl))) (Ze (Zf (d:=(.str [97,32,78,101,118,101,114,39,115,32,119,111,114,100,32,104,97,115,32,49,32,116,111,32,54,32,115,105,103,110,115])) (by rfl) (by rfl)) Zg))))
 (Zo (Xx (ZJ [] (by rfl) (Ze (ZL Qn (Ze (VF.cl (Xj (by rfl) (Xq (Zd 2)) (YN 0) Xi (ZJ [] (by rfl) (Ze (Zd 1) (Ze (Zd 0) Zg))))) Zg)) (Ze (Zf (d:=(.str [97,32,78,101,118,101,114,39,115,32,119,111,114,100,32,105,115,32,111,102,32,109,97,114,107,115])) (by rfl) (by rfl)) Zg))))
 (Vc 0 (by rfl) T.fl_word (Zd 2)))))
theorem Zh4(T:Txt w K mg t):FnOk P w K mg base CX0 3 t.a_Q5 t.d_Q5 ["self", "marks", "worths", "low", "high"] (spI ⟨t.c,K,lms⟩ 5 QN):=by
 have G_QX:=(Qc (P:=P) (w:=w) (base:=base) T).mono (k:=2) (by decide);have G_Qb:=(QX (P:=P) (w:=w) (base:=base) T).mono (k:=2) (by decide);have G_Q2:=(Zfr (P:=P) (w:=w) (base:=base) T).mono (k:=2) (by decide);refine UX (φ:=Zjd) T.p_Q5.f ZkP (by conv=>lhs;whnf) (by conv=>lhs;whnf) (λcdv A outer s H E self hr => ?_) rfl rfl;refine⟨_,(Zn (YH (Qu (by rfl) T.g_Rule T.cm_Rule_init G_QX hr T.p_QX.b .nil Zv (Zc (pv 0) (Zc (pv 1) Zh))))
 (Zn (YH (ZA (G_Qb) hr (by rfl) T.p_Qb.g T.p_Qb.k T.p_Qb.b .nil Zv (Zc (Vi (Y5 (cA:=⟨t.c,K,lms⟩) (hr.units)) (ZN (Yu (K:=K)) (by rfl) T.n_len boot_len (Zc (pv 2) Zh)) (ZN (Yu (K:=K)) (by rfl) T.n_len boot_len (Zc (pv 1) Zh)) (Z2 _)) (Zc (ZG [97,32,83,117,109,32,104,97,115,32,97,115,32,109,97,110,121,32,119,111,114,116,104,115,32,97,115,32,116,104,101,114,101,32,97,114,101,32,109,97,114,107,115] (by decide +kernel)) Zh))))
 (Zn (YH (ZA (G_Qb) hr (by rfl) T.p_Qb.g T.p_Qb.k T.p_Qb.b .nil Zv (Zc (ZN (Jb (K:=K)) (by rfl) T.n_all boot_all (Zc (X0 (by rfl) (CompSd.mk1 (tn:=["worth"]) (cn:=[]) (js:=[]) (osc:=defScope JL) (oN:=["self", "marks", "worths", "low", "high"]) (by rfl) (by rfl) (by rfl) (by decide +kernel)) (XE (K:=K) (pv 2)) (λC s₂ H₂ fp=>YI (i:=0) nd1) (λC s₂ H₂ fp=>Xy) (λC s₂ H₂ fp=>(ZA (G_Q2) hr (by rfl) T.p_Q2.g T.p_Q2.k T.p_Q2.b .nil Zv (Zc (pv 0) (Zc (Zfk ZcX Zl) (Zc Zl Zh)))))) Zh)) (Zc (ZG [97,32,83,117,109,39,115,32,119,111,114,116,104,115,32,97,114,101,32,102,114,111,109,32,45,51,32,116,111,32,51] (by decide +kernel)) Zh))))
 (Zn (YH (ZA (G_Qb) hr (by rfl) T.p_Qb.g T.p_Qb.k T.p_Qb.b .nil Zv (Zc (ZA (G_Q2) hr (by rfl) T.p_Q2.g T.p_Q2.k T.p_Q2.b .nil Zv (Zc (pv 3) (Zc (Zfk ZcX Zl) (Zc Zl Zh)))) (Zc (ZG [97,32,83,117,109,39,115,32,108,111,119,32,105,115,32,102,114,111,109,32,45,56,32,116,111,32,48] (by decide +kernel)) Zh))))
 (Zn (YH (ZA (G_Qb) hr (by rfl) T.p_Qb.g T.p_Qb.k T.p_Qb.b .nil Zv (Zc (ZA (G_Q2) hr (by rfl) T.p_Q2.g T.p_Q2.k T.p_Q2.b .nil Zv (Zc (pv 4) (Zc Zl (Zc Zl Zh)))) (Zc (ZG [97,32,83,117,109,39,115,32,104,105,103,104,32,105,115,32,102,114,111,109,32,48,32,116,111,32,56] (by decide +kernel)) Zh))))
 (Zn (X5 (pv 0) (Xh (ZbG (K:=K)) (by rfl) T.n_tuple boot_tuple (Zc (pv 2) Zh)) (by rfl))
 (Zn (X5 (pv 0) (pv 3) (by rfl))
 (Zr (X5 (pv 0) (pv 4) (by rfl)))))))))),?_⟩
 unfold Zjd;exact(Zo (Qv 0 (by rfl) [] (by rfl) (Ze (Zd 1) Zg))
 (Zo (Xx (ZJ [] (by rfl) (Ze (Zk Y6 (ZL Yw (Ze (Zd 2) Zg)) (ZL Yw (Ze (Zd 1) Zg))) (Ze (Zf (d:=(.str [97,32,83,117,109,32,104,97,115,32,97,115,32,109,97,110,121,32,119,111,114,116,104,115,32,97,115,32,116,104,101,114,101,32,97,114,101,32,109,97,114,107,115])) (by rfl) (by rfl)) Zg))))
 (Zo (Xx (ZJ [] (by rfl) (Ze (ZL Qn (Ze (VF.cl (Xj (by rfl) (Xq (Zd 2)) (YN 0) Xi (ZJ [] (by rfl) (Ze (Zd 0) (Ze (ZcZ (Zf (d:=(.int 3)) (by rfl) (by rfl))) (Ze (Zf (d:=(.int 3)) (by rfl) (by rfl)) Zg)))))) Zg)) (Ze (Zf (d:=(.str [97,32,83,117,109,39,115,32,119,111,114,116,104,115,32,97,114,101,32,102,114,111,109,32,45,51,32,116,111,32,51])) (by rfl) (by rfl)) Zg))))
 (Zo (Xx (ZJ [] (by rfl) (Ze (ZJ [] (by rfl) (Ze (Zd 3) (Ze (ZcZ (Zf (d:=(.int 8)) (by rfl) (by rfl))) (Ze (Zf (d:=(.int 0)) (by rfl) (by rfl)) Zg)))) (Ze (Zf (d:=(.str [97,32,83,117,109,39,115,32,108,111,119,32,105,115,32,102,114,111,109,32,45,56,32,116,111,32,48])) (by rfl) (by rfl)) Zg))))
 (Zo (Xx (ZJ [] (by rfl) (Ze (ZJ [] (by rfl) (Ze (Zd 4) (Ze (Zf (d:=(.int 0)) (by rfl) (by rfl)) (Ze (Zf (d:=(.int 8)) (by rfl) (by rfl)) Zg)))) (Ze (Zf (d:=(.str [97,32,83,117,109,39,115,32,104,105,103,104,32,105,115,32,102,114,111,109,32,48,32,116,111,32,56])) (by rfl) (by rfl)) Zg))))
 (Zo (Vc 0 (by rfl) T.fl_worths (ZaV (Ze (Zd 2) Zg)))
 (Zo (Vc 0 (by rfl) T.fl_low (Zd 3))
 (Vc 0 (by rfl) T.fl_high (Zd 4)))))))))
theorem Zh5(T:Txt w K mg t):FnOk P w K mg base CX0 3 t.a_Q1 t.d_Q1 ["self", "marks", "mark", "every", "at"] (spI ⟨t.c,K,lms⟩ 5 QO):=by
 have G_QX:=(Qc (P:=P) (w:=w) (base:=base) T).mono (k:=2) (by decide);have G_Qb:=(QX (P:=P) (w:=w) (base:=base) T).mono (k:=2) (by decide);have G_Q9:=(ZgT (P:=P) (w:=w) (base:=base) T).mono (k:=2) (by decide);have G_Q2:=(Zfr (P:=P) (w:=w) (base:=base) T).mono (k:=2) (by decide);refine UX (φ:=Zje) T.p_Q1.f ZkQ (by conv=>lhs;whnf) (by conv=>lhs;whnf) (λcdv A outer s H E self hr => ?_) rfl rfl
 refine⟨_,(Zn (YH (Qu (by rfl) T.g_Rule T.cm_Rule_init G_QX hr T.p_QX.b .nil Zv (Zc (pv 0) (Zc (pv 1) Zh))))
 (Zn (YH (ZA (G_Qb) hr (by rfl) T.p_Qb.g T.p_Qb.k T.p_Qb.b .nil Zv (Zc (ZA (G_Q9) hr (by rfl) T.p_Q9.g T.p_Q9.k T.p_Q9.b .nil Zv (Zc (pv 1) (Zc (pv 2) Zh))) (Zc (ZG [97,32,84,117,114,110,39,115,32,109,97,114,107,32,105,115,32,111,110,101,32,111,102,32,116,104,101,32,109,97,114,107,115] (by decide +kernel)) Zh))))
 (Zn (YH (ZA (G_Qb) hr (by rfl) T.p_Qb.g T.p_Qb.k T.p_Qb.b .nil Zv (Zc (ZA (G_Q2) hr (by rfl) T.p_Q2.g T.p_Q2.k T.p_Q2.b .nil Zv (Zc (pv 3) (Zc Zl (Zc Zl Zh)))) (Zc (ZG [97,32,84,117,114,110,39,115,32,101,118,101,114,121,32,105,115,32,102,114,111,109,32,49,32,116,111,32,54] (by decide +kernel)) Zh))))
 (Zn (YH (ZA (G_Qb) hr (by rfl) T.p_Qb.g T.p_Qb.k T.p_Qb.b .nil Zv (Zc (ZA (G_Q2) hr (by rfl) T.p_Q2.g T.p_Q2.k T.p_Q2.b .nil Zv (Zc (pv 4) (Zc Zl (Zc (ZF Q4 (pv 3) Zl) Zh)))) (Zc (ZG [97,32,84,117,114,110,39,115,32,97,116,32,105,115,32,102,114,111,109,32,48,32,116,111,32,111,110,101,32,98,101,108,111,119,32,101,118,101,114,121] (by decide +kernel)) Zh))))
 (Zn (X5 (pv 0) (pv 2) (by rfl))
 (Zn (X5 (pv 0) (pv 3) (by rfl))
 (Zr (X5 (pv 0) (pv 4) (by rfl))))))))),?_⟩
 unfold Zje;exact(Zo (Qv 0 (by rfl) [] (by rfl) (Ze (Zd 1) Zg))
 (Zo (Xx (ZJ [] (by rfl) (Ze (ZJ [] (by rfl) (Ze (Zd 1) (Ze (Zd 2) Zg))) (Ze (Zf (d:=(.str [97,32,84,117,114,110,39,115,32,109,97,114,107,32,105,115,32,111,110,101,32,111,102,32,116,104,101,32,109,97,114,107,115])) (by rfl) (by rfl)) Zg))))
 (Zo (Xx (ZJ [] (by rfl) (Ze (ZJ [] (by rfl) (Ze (Zd 3) (Ze (Zf (d:=(.int 1)) (by rfl) (by rfl)) (Ze (Zf (d:=(.int 6)) (by rfl) (by rfl)) Zg)))) (Ze (Zf (d:=(.str [97,32,84,117,114,110,39,115,32,101,118,101,114,121,32,105,115,32,102,114,111,109,32,49,32,116,111,32,54])) (by rfl) (by rfl)) Zg))))
 (Zo (Xx (ZJ [] (by rfl) (Ze (ZJ [] (by rfl) (Ze (Zd 4) (Ze (Zf (d:=(.int 0)) (by rfl) (by rfl)) (Ze (Zk Je (Zd 3) (Zf (d:=(.int 1)) (by rfl) (by rfl))) Zg)))) (Ze (Zf (d:=(.str [97,32,84,117,114,110,39,115,32,97,116,32,105,115,32,102,114,111,109,32,48,32,116,111,32,111,110,101,32,98,101,108,111,119,32,101,118,101,114,121])) (by rfl) (by rfl)) Zg))))
 (Zo (Vc 0 (by rfl) T.fl_mark (Zd 2))
 (Zo (Vc 0 (by rfl) T.fl_every (Zd 3))
 (Vc 0 (by rfl) T.fl_at (Zd 4))))))))
theorem Zh6(T:Txt w K mg t):FnOk P w K mg base CX0 3 t.a_QQ t.d_QQ ["self", "marks", "most"] (spI ⟨t.c,K,lms⟩ 3 QP):=by
 have G_QX:=(Qc (P:=P) (w:=w) (base:=base) T).mono (k:=2) (by decide);have G_Qb:=(QX (P:=P) (w:=w) (base:=base) T).mono (k:=2) (by decide);have G_Q2:=(Zfr (P:=P) (w:=w) (base:=base) T).mono (k:=2) (by decide);refine UX (φ:=Zjf) T.p_QQ.f ZkR (by conv=>lhs;whnf) (by conv=>lhs;whnf) (λcdv A outer s H E self hr => ?_) rfl rfl;refine⟨_,(Zn (YH (Qu (by rfl) T.g_Rule T.cm_Rule_init G_QX hr T.p_QX.b .nil Zv (Zc (pv 0) (Zc (pv 1) Zh))))
 (Zn (YH (ZA (G_Qb) hr (by rfl) T.p_Qb.g T.p_Qb.k T.p_Qb.b .nil Zv (Zc (ZA (G_Q2) hr (by rfl) T.p_Q2.g T.p_Q2.k T.p_Q2.b .nil Zv (Zc (pv 2) (Zc Zl (Zc Zl Zh)))) (Zc (ZG [97,110,32,65,108,105,107,101,39,115,32,109,111,115,116,32,105,115,32,102,114,111,109,32,49,32,116,111,32,54] (by decide +kernel)) Zh))))
 (Zr (X5 (pv 0) (pv 2) (by rfl))))),?_⟩
 unfold Zjf;exact(Zo (Qv 0 (by rfl) [] (by rfl) (Ze (Zd 1) Zg))
 (Zo (Xx (ZJ [] (by rfl) (Ze (ZJ [] (by rfl) (Ze (Zd 2) (Ze (Zf (d:=(.int 1)) (by rfl) (by rfl)) (Ze (Zf (d:=(.int 6)) (by rfl) (by rfl)) Zg)))) (Ze (Zf (d:=(.str [97,110,32,65,108,105,107,101,39,115,32,109,111,115,116,32,105,115,32,102,114,111,109,32,49,32,116,111,32,54])) (by rfl) (by rfl)) Zg))))
 (Vc 0 (by rfl) T.fl_most (Zd 2))))
theorem Zh7(T:Txt w K mg t):FnOk P w K mg base CX0 3 t.a_Q4 t.d_Q4 ["self", "marks", "rules"] (spI ⟨t.c,K,lms⟩ 3 UD):=by
 have G_QX:=(Qc (P:=P) (w:=w) (base:=base) T).mono (k:=2) (by decide);have G_Qb:=(QX (P:=P) (w:=w) (base:=base) T).mono (k:=2) (by decide);refine UX (φ:=JC) T.p_Q4.f ZkS (by conv=>lhs;whnf) (by conv=>lhs;whnf) (λcdv A outer s H E self hr => ?_) rfl rfl;refine⟨_,(Zn (YH (Qu (by rfl) T.g_Rule T.cm_Rule_init G_QX hr T.p_QX.b .nil Zv (Zc (pv 0) (Zc (pv 1) Zh))))
 (Zn (YH (ZA (G_Qb) hr (by rfl) T.p_Qb.g T.p_Qb.k T.p_Qb.b .nil Zv (Zc (Vi Q5 (ZN (Yu (K:=K)) (by rfl) T.n_len boot_len (Zc (pv 2) Zh)) Zl (Z2 _)) (Zc (ZG [97,110,32,65,108,108,32,104,97,115,32,97,116,32,109,111,115,116,32,54,32,114,117,108,101,115] (by decide +kernel)) Zh))))
 (Zn (YH (ZA (G_Qb) hr (by rfl) T.p_Qb.g T.p_Qb.k T.p_Qb.b .nil Zv (Zc (Zgj (ZN (Zkz (K:=K)) (by rfl) T.n_any boot_any (Zc (X0 (by rfl) (CompSd.mk1 (tn:=["rule"]) (cn:=[]) (js:=[]) (osc:=defScope QT) (oN:=["self", "marks", "rules"]) (by rfl) (by rfl) (by rfl) (by decide +kernel)) (XE (K:=K) (pv 2)) (λC s₂ H₂ fp=>YI (i:=0) nd2) (λC s₂ H₂ fp=>Xy) (λC s₂ H₂ fp=>(ZN (Xk (K:=K)) (by rfl) T.n_isinstance boot_isinstance (Zc (pv 0) (Zc (XU (v:=.ref (t.c "All")) (by rfl) T.g_All (by rfl)) Zh))))) Zh))) (Zc (ZG [110,111,32,114,117,108,101,32,105,110,32,97,110,32,65,108,108,32,105,115,32,97,110,32,65,108,108] (by decide +kernel)) Zh))))
 (Zn (YH (ZA (G_Qb) hr (by rfl) T.p_Qb.g T.p_Qb.k T.p_Qb.b .nil Zv (Zc (ZN (Jb (K:=K)) (by rfl) T.n_all boot_all (Zc (X0 (by rfl) (CompSd.mk1 (tn:=["rule"]) (cn:=["marks"]) (js:=[1]) (osc:=defScope QT) (oN:=["self", "marks", "rules"]) (by rfl) (by rfl) (by rfl) (by decide +kernel)) (XE (K:=K) (pv 2)) (λC s₂ H₂ fp=>YI (i:=0) nd3) (λC s₂ H₂ fp=>Xy) (λC s₂ H₂ fp=>(Vi (Y5 (cA:=⟨t.c,K,lms⟩) (hr.units)) (YC (K:=K) (pv 0)) (pv 1) (Z2 _)))) Zh)) (Zc (ZG [116,104,101,32,114,117,108,101,115,32,105,110,32,97,110,32,65,108,108,32,97,114,101,32,111,102,32,105,116,115,32,109,97,114,107,115] (by decide +kernel)) Zh))))
 (Zr (X5 (pv 0) (Xh (ZbG (K:=K)) (by rfl) T.n_tuple boot_tuple (Zc (pv 2) Zh)) (by rfl))))))),?_⟩
 unfold JC;exact(Zo (Qv 0 (by rfl) [] (by rfl) (Ze (Zd 1) Zg))
 (Zo (Xx (ZJ [] (by rfl) (Ze (Zk Ug (ZL Yw (Ze (Zd 2) Zg)) (Zf (d:=(.int 6)) (by rfl) (by rfl))) (Ze (Zf (d:=(.str [97,110,32,65,108,108,32,104,97,115,32,97,116,32,109,111,115,116,32,54,32,114,117,108,101,115])) (by rfl) (by rfl)) Zg))))
 (Zo (Xx (ZJ [] (by rfl) (Ze (Zgs (ZL Qn (Ze (VF.cl (Xj (by rfl) (Xq (Zd 2)) (YN 0) Xi (YO (λ_ h=>h) T.isi_All (Zd 0)))) Zg))) (Ze (Zf (d:=(.str [110,111,32,114,117,108,101,32,105,110,32,97,110,32,65,108,108,32,105,115,32,97,110,32,65,108,108])) (by rfl) (by rfl)) Zg))))
 (Zo (Xx (ZJ [] (by rfl) (Ze (ZL Qn (Ze (VF.cl (Xj (by rfl) (Xq (Zd 2)) (YN 0) Xi (Zk Y6 (Z3 T.fl_marks (Zd 0)) (Zd 1)))) Zg)) (Ze (Zf (d:=(.str [116,104,101,32,114,117,108,101,115,32,105,110,32,97,110,32,65,108,108,32,97,114,101,32,111,102,32,105,116,115,32,109,97,114,107,115])) (by rfl) (by rfl)) Zg))))
 (Vc 0 (by rfl) T.fl_rules (ZaV (Ze (Zd 2) Zg)))))))
theorem Zh8(T:Txt w K mg t):FnOk P w K mg base CX0 1 t.a_QB t.d_QB ["self"] (spD ⟨t.c,K,lms⟩ 1 Zj5):=by
 refine YZ (φ:=Zj4) T.p_QB.f ZkT (by conv=>lhs;whnf) (by conv=>lhs;whnf) (λcdv A outer s H E hr => ?_) rfl rfl;refine⟨_,(Zr (Zy (Xh (ZdR (K:=K)) (by rfl) T.n_list boot_list (Zc (YC (K:=K) (pv 0)) Zh)))),[],?_⟩;unfold Zj4;exact(Zw (VF.cl (ZfR (Or.inl rfl) (Ze (Z3 T.fl_rules (Zd 0)) Zg))))
theorem Zlo(T:Txt w K mg t):FnOk P w K mg base CX0 1 t.a_Q8 t.d_Q8 ["row"] (spD ⟨t.c,K,lms⟩ 1 JD):=by
 refine YZ (φ:=Zjg) T.p_Q8.f ZkU (by conv=>lhs;whnf) (by conv=>lhs;whnf) (λcdv A outer s H E hr => ?_) rfl rfl;refine⟨_,(Zn (Z4 (i:=1) nd4 (by rfl) (by first|exact Or.inl rfl|exact Or.inr rfl) (ZB (ZC (K:=K)) (XI (K:=K) PySem.F.plainAttrs_str PySem.F.slot_str_partition PySem.F.type_str_partition Zcs (pv 0) (Zc (ZG [35] (by decide +kernel)) Zh)) Zl (λ_ _=>rfl)))
 (Zr (Zy (X0 (by rfl) (CompSd.mk1 (tn:=["word"]) (cn:=[]) (js:=[]) (osc:=defScope JM) (oN:=["row", "said"]) (by rfl) (by rfl) (by rfl) (by decide +kernel)) (XE (K:=K) (XI (K:=K) PySem.F.plainAttrs_str PySem.F.slot_str_split PySem.F.type_str_split Zdm (pv 1) (Zc (ZG [32] (by decide +kernel)) Zh))) (λC s₂ H₂ fp=>YI (i:=0) nd5) (λC s₂ H₂ fp=>(Zg5 (Ye (Vv (cA:=⟨t.c,K,lms⟩) (hr.units)) (pv 0) (ZG [] (by decide +kernel)) (Z2 _)))) (λC s₂ H₂ fp=>(pv 0)))))),[],?_⟩
 unfold Zjg;exact(Zo (show VS _ _ [] _ _ _ _ from(Z6 1 (Zk ZD (Vz Zct (Zd 0) (Ze (Zf (d:=(.str [35])) (by rfl) (by rfl)) Zg)) (Zf (d:=(.int 0)) (by rfl) (by rfl)))))
 (Zw (VF.cl (Xj (by rfl) (Xq (Vz Zdn (Zd 1) (Ze (Zf (d:=(.str [32])) (by rfl) (by rfl)) Zg))) (YN 0) (Yg (Zk Vw (Zd 0) (Zf (d:=(.str [])) (by rfl) (by rfl)))) (Zd 0)))))
theorem Zlp(T:Txt w K mg t):FnOk P w K mg base CX0 2 t.a_Qa t.d_Qa ["page"] (spD ⟨t.c,K,lms⟩ 1 Zji):=by
 have G_Q8:=(Zlo (P:=P) (w:=w) (base:=base) T).mono (k:=1) (by decide);refine YZ (φ:=Zjh) T.p_Qa.f ZkV (by conv=>lhs;whnf) (by conv=>lhs;whnf) (λcdv A outer s H E hr => ?_) rfl rfl;refine⟨_,(Zn (Z4 (i:=1) nd6 (by rfl) (by first|exact Or.inl rfl|exact Or.inr rfl) (XB Zh))
 (Zn ((Qj PassesOwn.never (by rfl) (Ze8 (K:=K) (by rfl) T.n_enumerate (XI (K:=K) PySem.F.plainAttrs_str PySem.F.slot_str_split PySem.F.type_str_split Zdm (pv 0) (Zc (ZG [10] (by decide +kernel)) Zh))) (ZhU (K:=K) (n:=2) (J7 (YI (i:=2) nd6) (J7 (YI (i:=3) nd6) Zeg))) (Zn (Z4 (i:=4) nd6 (by rfl) (by first|exact Or.inl rfl|exact Or.inr rfl) (ZA (G_Q8) hr (by rfl) T.p_Q8.g T.p_Q8.k T.p_Q8.b .nil Zv (Zc (pv 3) Zh)))
 (Zr (ZP (Ye Zfm (ZN (Yu (K:=K)) (by rfl) T.n_len boot_len (Zc (pv 4) Zh)) Zl (Z2 _)) (Zr (YH (XI (K:=K) PySem.F.plainAttrs_list PySem.F.slot_list_append PySem.F.type_list_append Za1 (pv 1) (Zc (X6 (Zc (pv 2) (Zc (pv 4) Zh))) Zh)))) ZO)))))
 (Zr (Zy (pv 1))))),[],?_⟩
 unfold Zjh;exact(Zo (show VS _ _ [1] _ _ _ _ from(Jg 1 (Y4 Zg)))
 (Zo (Qp (Ze9 (Vz Zdn (Zd 0) (Ze (Zf (d:=(.str [10])) (by rfl) (by rfl)) Zg))) (Zgt (ZaW 2 (by rfl) (by rfl) (ZaW 3 (by rfl) (by rfl) Zep))) (Zo (show VS _ _ [1] _ _ _ _ from(Z6 4 (ZJ [] (by rfl) (Ze (Zd 3) Zg))))
 (ZI (Yg (Zk Ug (ZL Yw (Ze (Zd 4) Zg)) (Zf (d:=(.int 0)) (by rfl) (by rfl)))) (Zd6 1 (by rfl) (Va (Ze (Zd 2) (Ze (Zd 4) Zg)))) ZH)))
 (VS.frz (ow1:=[]) 1 (Zw (Zd 1)))))
theorem Zlq(T:Txt w K mg t):FnOk P w K mg base CX0 1 t.a_Q6 t.d_Q6 ["word", "figures"] (spD ⟨t.c,K,lms⟩ 2 Zl7):=by
 refine YZ (φ:=Zj6) T.p_Q6.f ZkW (by conv=>lhs;whnf) (by conv=>lhs;whnf) (λcdv A outer s H E hr => ?_) rfl rfl;refine⟨_,(Zn (ZP (PW.pt (X4 (Ye Zfl (ZN (Yu (K:=K)) (by rfl) T.n_len boot_len (Zc (pv 0) Zh)) Zl (Z2 _)) (Vr (Ye Zfm (ZN (Yu (K:=K)) (by rfl) T.n_len boot_len (Zc (pv 0) Zh)) (pv 1) (Z2 _))))) (Zr (Zy XA)) ZO)
 (Zn (ZP (XH (YB (ZN (Jb (K:=K)) (by rfl) T.n_all boot_all (Zc (X0 (by rfl) (CompSd.mk1 (tn:=["sign"]) (cn:=[]) (js:=[]) (osc:=defScope JN) (oN:=["word", "figures"]) (by rfl) (by rfl) (by rfl) (by decide +kernel)) (XE (K:=K) (pv 0)) (λC s₂ H₂ fp=>YI (i:=0) nd7) (λC s₂ H₂ fp=>Xy) (λC s₂ H₂ fp=>(Vi (Zfn (K:=K)) (pv 0) (XU (by rfl) T.g_FIGURES T.r_FIGURES) (by rfl)))) Zh)))) (Zr (Zy XA)) ZO)
 (Zn (ZP (PW.pt (Zgi (Ye Zfm (ZN (Yu (K:=K)) (by rfl) T.n_len boot_len (Zc (pv 0) Zh)) Zl (Z2 _)) (Zef (Ye (Y5 (cA:=⟨t.c,K,lms⟩) (hr.units)) (ZB (ZC (K:=K)) (pv 0) Zl (λ_ _=>rfl)) (ZG [48] (by decide +kernel)) (Z2 _))))) (Zr (Zy XA)) ZO)
 (Zr (Zy (Xh ZeX (by rfl) T.n_int boot_int (Zc (pv 0) Zh))))))),[],?_⟩
 unfold Zj6;exact(Zo (ZI (X8 (Yg (Zk Ug (ZL Yw (Ze (Zd 0) Zg)) (Zf (d:=(.int 1)) (by rfl) (by rfl)))) (Yg (Zk Ug (ZL Yw (Ze (Zd 0) Zg)) (Zd 1)))) (Zw (Zf (d:=.non) (by rfl) (by rfl))) ZH)
 (Zo (ZI (XM (ZW (ZL Qn (Ze (VF.cl (Xj (by rfl) (Xq (Zd 0)) (YN 0) Xi (Zk Zfo (Zd 0) (Zf (d:=.str Zat) (by rfl) (by rfl))))) Zg)))) (Zw (Zf (d:=.non) (by rfl) (by rfl))) ZH)
 (Zo (ZI (Zgr (Yg (Zk Ug (ZL Yw (Ze (Zd 0) Zg)) (Zf (d:=(.int 1)) (by rfl) (by rfl)))) (Yg (Zk Y6 (Zk ZD (Zd 0) (Zf (d:=(.int 0)) (by rfl) (by rfl))) (Zf (d:=(.str [48])) (by rfl) (by rfl))))) (Zw (Zf (d:=.non) (by rfl) (by rfl))) ZH)
 (Zw (ZL ZiC (Ze (Zd 0) Zg))))))
theorem Zfs(T:Txt w K mg t):FnOk P w K mg base CX0 2 t.a_QZ t.d_QZ ["word"] (spD ⟨t.c,K,lms⟩ 1 VD):=by
 have G_Q6:=(Zlq (P:=P) (w:=w) (base:=base) T).mono (k:=1) (by decide);refine YZ (φ:=Zj7) T.p_QZ.f ZkX (by conv=>lhs;whnf) (by conv=>lhs;whnf) (λcdv A outer s H E hr => ?_) rfl rfl;refine⟨_,(Zr (Zy (ZA (G_Q6) hr (by rfl) T.p_Q6.g T.p_Q6.k T.p_Q6.b .nil Zv (Zc (pv 0) (Zc Zl Zh))))),[],?_⟩;unfold Zj7;exact(Zw (ZJ [] (by rfl) (Ze (Zd 0) (Ze (Zf (d:=(.int 2)) (by rfl) (by rfl)) Zg))))
theorem Zlr(T:Txt w K mg t):FnOk P w K mg base CX0 3 t.a_QT t.d_QT ["word"] (spD ⟨t.c,K,lms⟩ 1 JE):=by
 have G_QZ:=(Zfs (P:=P) (w:=w) (base:=base) T).mono (k:=2) (by decide);refine YZ (φ:=Zj8) T.p_QT.f ZkY (by conv=>lhs;whnf) (by conv=>lhs;whnf) (λcdv A outer s H E hr => ?_) rfl rfl;refine⟨_,(Zn (ZP (XH (YB (XI (K:=K) PySem.F.plainAttrs_str PySem.F.slot_str_startswith PySem.F.type_str_startswith ZbU (pv 0) (Zc (ZG [45] (by decide +kernel)) Zh)))) (Zr (Zy (ZA (G_QZ) hr (by rfl) T.p_QZ.g T.p_QZ.k T.p_QZ.b .nil Zv (Zc (pv 0) Zh)))) ZO)
 (Zn (Z4 (i:=1) nd8 (by rfl) (by first|exact Or.inl rfl|exact Or.inr rfl) (ZA (G_QZ) hr (by rfl) T.p_QZ.g T.p_QZ.k T.p_QZ.b .nil Zv (Zc (UN (UP (K:=K)) (pv 0) (UM Zl) UL) Zh)))
 (Zr (Zy (Zc8 (PW.pt (X4 (Vh (Vg (pv 1))) (Vr (Ye (Y5 (cA:=⟨t.c,K,lms⟩) (hr.units)) (pv 1) Zl (Z2 _))))) XA (Zfk ZcX (pv 1))))))),[],?_⟩
 unfold Zj8;exact(Zo (ZI (XM (ZW (Vz Ze6 (Zd 0) (Ze (Zf (d:=(.str [45])) (by rfl) (by rfl)) Zg)))) (Zw (ZJ [] (by rfl) (Ze (Zd 0) Zg))) ZH)
 (Zo (show VS _ _ [] _ _ _ _ from(Z6 1 (ZJ [] (by rfl) (Ze (Qq (Or.inl rfl) (Zd 0) (UW (Zf (d:=(.int 1)) (by rfl) (by rfl))) UV) Zg))))
 (Zw (ZgP (X8 (ZW (X9 (Zd 1))) (Yg (Zk Y6 (Zd 1) (Zf (d:=(.int 0)) (by rfl) (by rfl))))) (Zf (d:=.non) (by rfl) (by rfl)) (ZcZ (Zd 1))))))
theorem Zh9(T:Txt w K mg t):FnOk P w K mg base CX0 3 t.a_QV t.d_QV ["words"] (spD ⟨t.c,K,lms⟩ 1 Zjj):=by
 have G_QZ:=(Zfs (P:=P) (w:=w) (base:=base) T).mono (k:=2) (by decide);refine Jw (i:=0) (js:=[0,1,2]) (φ:=f_QV) T.f_QV ZkZ (by conv=>lhs;whnf) (by conv=>lhs;whnf) rfl (by kernel_rfl) T.cd_gap_maker T.nk_gap_maker T.tb_gap_maker (λA outer s H E=>⟨_,rfl,(by((repeat (refine List.forall_mem_cons.mpr ⟨rfl,?_⟩));(exact λ_ h=>nomatch h))),(λi y hy=>match i,hy with|0,hy=>by cases hy;exact⟨0,_,rfl,rfl,.inl rfl,(by first|exact Or.inl rfl|exact Or.inr (Or.inl rfl)|exact Or.inr (Or.inr rfl)),rfl⟩|1,hy=>by cases hy;exact⟨1,_,rfl,rfl,.inl rfl,(by first|exact Or.inl rfl|exact Or.inr (Or.inl rfl)|exact Or.inr (Or.inr rfl)),rfl⟩|2,hy=>by cases hy;exact⟨2,_,rfl,rfl,.inl rfl,(by first|exact Or.inl rfl|exact Or.inr (Or.inl rfl)|exact Or.inr (Or.inr rfl)),rfl⟩|_+3,hy=>by cases hy),rfl,rfl,rfl⟩) (λA outer s H E hr => ?_) rfl rfl
 refine⟨_,(Zn (ZP (Ye (Vv (cA:=⟨t.c,K,lms⟩) (hr.units)) (ZN (Yu (K:=K)) (by rfl) T.n_len boot_len (Zc (pv 0) Zh)) Zl (Z2 _)) (Zr (Zy XA)) ZO)
 (Zn (Z4 (i:=1) nd9 (by rfl) (by first|exact Or.inl rfl|exact Or.inr rfl) (ZA (G_QZ) hr (by rfl) T.p_QZ.g T.p_QZ.k T.p_QZ.b .nil Zv (Zc (ZB (ZC (K:=K)) (pv 0) Zl (λ_ _=>rfl)) Zh)))
 (Zn (Z4 (i:=2) nd9 (by rfl) (by first|exact Or.inl rfl|exact Or.inr rfl) (ZA (G_QZ) hr (by rfl) T.p_QZ.g T.p_QZ.k T.p_QZ.b .nil Zv (Zc (ZB (ZC (K:=K)) (pv 0) Zl (λ_ _=>rfl)) Zh)))
 (Zr (ZP (PW.pt (X4 (Vh (Vg (pv 1))) (Vr (PW.pt (Zgi (Vh (Vg (pv 2))) (Zef (Ye (Vv (cA:=⟨t.c,K,lms⟩) (hr.units)) (ZB (ZC (K:=K)) (pv 0) Zl (λ_ _=>rfl)) (ZG [97,110,121] (by decide +kernel)) (Z2 _)))))))) (Zr (Zy XA)) ZO))))),[],?_⟩
 unfold f_QV;exact(Zo (ZI (Yg (Zk Vw (ZL Yw (Ze (Zd 0) Zg)) (Zf (d:=(.int 4)) (by rfl) (by rfl)))) (Zw (Zf (d:=.non) (by rfl) (by rfl))) ZH)
 (Zo (show VS _ _ [] _ _ _ _ from(Z6 1 (ZJ [] (by rfl) (Ze (Zk ZD (Zd 0) (Zf (d:=(.int 2)) (by rfl) (by rfl))) Zg))))
 (Zo (show VS _ _ [] _ _ _ _ from(Z6 2 (ZJ [] (by rfl) (Ze (Zk ZD (Zd 0) (Zf (d:=(.int 3)) (by rfl) (by rfl))) Zg))))
 (ZI (X8 (ZW (X9 (Zd 1))) (Zgr (ZW (X9 (Zd 2))) (Yg (Zk Vw (Zk ZD (Zd 0) (Zf (d:=(.int 3)) (by rfl) (by rfl))) (Zf (d:=(.str [97,110,121])) (by rfl) (by rfl)))))) (Zw (Zf (d:=.non) (by rfl) (by rfl))) ZH))))
theorem Zia(T:Txt w K mg t):FnOk P w K mg base CX0 1 t.a_QG t.d_QG ["words"] (spD ⟨t.c,K,lms⟩ 1 Zj9):=by
 refine Jw (i:=1) (js:=[0]) (φ:=f_QG) T.f_QG Zk0 (by conv=>lhs;whnf) (by conv=>lhs;whnf) rfl (by kernel_rfl) T.cd_never_maker T.nk_never_maker T.tb_never_maker (λA outer s H E=>⟨_,rfl,(by((repeat (refine List.forall_mem_cons.mpr ⟨rfl,?_⟩));(exact λ_ h=>nomatch h))),(λi y hy=>match i,hy with|0,hy=>by cases hy;exact⟨0,_,rfl,rfl,.inl rfl,(by first|exact Or.inl rfl|exact Or.inr (Or.inl rfl)|exact Or.inr (Or.inr rfl)),rfl⟩|_+1,hy=>by cases hy),rfl,rfl,rfl⟩) (λA outer s H E hr => ?_) rfl rfl
 refine⟨_,(Zr (ZP (Ye (Vv (cA:=⟨t.c,K,lms⟩) (hr.units)) (ZN (Yu (K:=K)) (by rfl) T.n_len boot_len (Zc (pv 0) Zh)) Zl (Z2 _)) (Zr (Zy XA)) ZO)),[],?_⟩;unfold f_QG;exact(ZI (Yg (Zk Vw (ZL Yw (Ze (Zd 0) Zg)) (Zf (d:=(.int 2)) (by rfl) (by rfl)))) (Zw (Zf (d:=.non) (by rfl) (by rfl))) ZH)
theorem Zib(T:Txt w K mg t):FnOk P w K mg base CX0 4 t.a_QW t.d_QW ["words"] (spD ⟨t.c,K,lms⟩ 1 Zka):=by
 have G_QT:=(Zlr (P:=P) (w:=w) (base:=base) T).mono (k:=3) (by decide);refine Jw (i:=2) (js:=[1]) (φ:=f_QW) T.f_QW Zk1 (by conv=>lhs;whnf) (by conv=>lhs;whnf) rfl (by kernel_rfl) T.cd_sum_maker T.nk_sum_maker T.tb_sum_maker (λA outer s H E=>⟨_,rfl,(by((repeat (refine List.forall_mem_cons.mpr ⟨rfl,?_⟩));(exact λ_ h=>nomatch h))),(λi y hy=>match i,hy with|0,hy=>by cases hy;exact⟨1,_,rfl,rfl,.inl rfl,(by first|exact Or.inl rfl|exact Or.inr (Or.inl rfl)|exact Or.inr (Or.inr rfl)),rfl⟩|_+1,hy=>by cases hy),rfl,rfl,rfl⟩) (λA outer s H E hr => ?_) rfl rfl
 refine⟨_,(Zn (ZP (Ye Zfl (ZN (Yu (K:=K)) (by rfl) T.n_len boot_len (Zc (pv 0) Zh)) Zl (Z2 _)) (Zr (Zy XA)) ZO)
 (Zn (Z4 (i:=1) Zmo (by rfl) (by first|exact Or.inl rfl|exact Or.inr rfl) (X0 (by rfl) (CompSd.mk1 (tn:=["word"]) (cn:=[]) (js:=[]) (osc:=defScope Vp) (oN:=["words", "numbers"]) (by rfl) (by rfl) (by rfl) (by decide +kernel)) (XE (K:=K) (UN (UP (K:=K)) (pv 0) (UM Zl) UL)) (λC s₂ H₂ fp=>YI (i:=0) nd5) (λC s₂ H₂ fp=>Xy) (λC s₂ H₂ fp=>(ZA (G_QT) hr (by rfl) T.p_QT.g T.p_QT.k T.p_QT.b .nil Zv (Zc (pv 0) Zh)))))
 (Zr (ZP (Ye (Zfn (K:=K)) XA (pv 1) (by rfl)) (Zr (Zy XA)) ZO)))),[],?_⟩
 unfold f_QW;exact(Zo (ZI (Yg (Zk Ug (ZL Yw (Ze (Zd 0) Zg)) (Zf (d:=(.int 3)) (by rfl) (by rfl)))) (Zw (Zf (d:=.non) (by rfl) (by rfl))) ZH)
 (Zo (show VS _ _ [] _ _ _ _ from(Z6 1 (VF.cl (Xj (by rfl) (Xq (Qq (Or.inl rfl) (Zd 0) (UW (Zf (d:=(.int 1)) (by rfl) (by rfl))) UV)) (YN 0) Xi (ZJ [] (by rfl) (Ze (Zd 0) Zg))))))
 (ZI (Yg (Zk Zfo (Zf (d:=.non) (by rfl) (by rfl)) (Zd 1))) (Zw (Zf (d:=.non) (by rfl) (by rfl))) ZH)))
theorem Zic(T:Txt w K mg t):FnOk P w K mg base CX0 3 t.a_QN t.d_QN ["words"] (spD ⟨t.c,K,lms⟩ 1 Zjk):=by
 have G_QZ:=(Zfs (P:=P) (w:=w) (base:=base) T).mono (k:=2) (by decide);refine Jw (i:=3) (js:=[0,1,2]) (φ:=f_QN) T.f_QN Zk2 (by conv=>lhs;whnf) (by conv=>lhs;whnf) rfl (by kernel_rfl) T.cd_turn_maker T.nk_turn_maker T.tb_turn_maker (λA outer s H E=>⟨_,rfl,(by((repeat (refine List.forall_mem_cons.mpr ⟨rfl,?_⟩));(exact λ_ h=>nomatch h))),(λi y hy=>match i,hy with|0,hy=>by cases hy;exact⟨0,_,rfl,rfl,.inl rfl,(by first|exact Or.inl rfl|exact Or.inr (Or.inl rfl)|exact Or.inr (Or.inr rfl)),rfl⟩|1,hy=>by cases hy;exact⟨1,_,rfl,rfl,.inl rfl,(by first|exact Or.inl rfl|exact Or.inr (Or.inl rfl)|exact Or.inr (Or.inr rfl)),rfl⟩|2,hy=>by cases hy;exact⟨2,_,rfl,rfl,.inl rfl,(by first|exact Or.inl rfl|exact Or.inr (Or.inl rfl)|exact Or.inr (Or.inr rfl)),rfl⟩|_+3,hy=>by cases hy),rfl,rfl,rfl⟩) (λA outer s H E hr => ?_) rfl rfl
 refine⟨_,(Zn (ZP (Ye (Vv (cA:=⟨t.c,K,lms⟩) (hr.units)) (ZN (Yu (K:=K)) (by rfl) T.n_len boot_len (Zc (pv 0) Zh)) Zl (Z2 _)) (Zr (Zy XA)) ZO)
 (Zn (Z4 (i:=1) Zl8 (by rfl) (by first|exact Or.inl rfl|exact Or.inr rfl) (ZA (G_QZ) hr (by rfl) T.p_QZ.g T.p_QZ.k T.p_QZ.b .nil Zv (Zc (ZB (ZC (K:=K)) (pv 0) Zl (λ_ _=>rfl)) Zh)))
 (Zn (Z4 (i:=2) Zl8 (by rfl) (by first|exact Or.inl rfl|exact Or.inr rfl) (ZA (G_QZ) hr (by rfl) T.p_QZ.g T.p_QZ.k T.p_QZ.b .nil Zv (Zc (ZB (ZC (K:=K)) (pv 0) Zl (λ_ _=>rfl)) Zh)))
 (Zr (ZP (PW.pt (X4 (Vh (Vg (pv 1))) (Vr (Vh (Vg (pv 2)))))) (Zr (Zy XA)) ZO))))),[],?_⟩
 unfold f_QN;exact(Zo (ZI (Yg (Zk Vw (ZL Yw (Ze (Zd 0) Zg)) (Zf (d:=(.int 4)) (by rfl) (by rfl)))) (Zw (Zf (d:=.non) (by rfl) (by rfl))) ZH)
 (Zo (show VS _ _ [] _ _ _ _ from(Z6 1 (ZJ [] (by rfl) (Ze (Zk ZD (Zd 0) (Zf (d:=(.int 2)) (by rfl) (by rfl))) Zg))))
 (Zo (show VS _ _ [] _ _ _ _ from(Z6 2 (ZJ [] (by rfl) (Ze (Zk ZD (Zd 0) (Zf (d:=(.int 3)) (by rfl) (by rfl))) Zg))))
 (ZI (X8 (ZW (X9 (Zd 1))) (ZW (X9 (Zd 2)))) (Zw (Zf (d:=.non) (by rfl) (by rfl))) ZH))))
theorem Zid(T:Txt w K mg t):FnOk P w K mg base CX0 3 t.a_QH t.d_QH ["words"] (spD ⟨t.c,K,lms⟩ 1 Zkb):=by
 have G_QZ:=(Zfs (P:=P) (w:=w) (base:=base) T).mono (k:=2) (by decide);refine Jw (i:=4) (js:=[1]) (φ:=f_QH) T.f_QH Zk3 (by conv=>lhs;whnf) (by conv=>lhs;whnf) rfl (by kernel_rfl) T.cd_alike_maker T.nk_alike_maker T.tb_alike_maker (λA outer s H E=>⟨_,rfl,(by((repeat (refine List.forall_mem_cons.mpr ⟨rfl,?_⟩));(exact λ_ h=>nomatch h))),(λi y hy=>match i,hy with|0,hy=>by cases hy;exact⟨1,_,rfl,rfl,.inl rfl,(by first|exact Or.inl rfl|exact Or.inr (Or.inl rfl)|exact Or.inr (Or.inr rfl)),rfl⟩|_+1,hy=>by cases hy),rfl,rfl,rfl⟩) (λA outer s H E hr => ?_) rfl rfl
 refine⟨_,(Zn (ZP (Ye (Vv (cA:=⟨t.c,K,lms⟩) (hr.units)) (ZN (Yu (K:=K)) (by rfl) T.n_len boot_len (Zc (pv 0) Zh)) Zl (Z2 _)) (Zr (Zy XA)) ZO)
 (Zn (Z4 (i:=1) Zmp (by rfl) (by first|exact Or.inl rfl|exact Or.inr rfl) (ZA (G_QZ) hr (by rfl) T.p_QZ.g T.p_QZ.k T.p_QZ.b .nil Zv (Zc (ZB (ZC (K:=K)) (pv 0) Zl (λ_ _=>rfl)) Zh)))
 (Zr (ZP (Vh (Vg (pv 1))) (Zr (Zy XA)) ZO)))),[],?_⟩
 unfold f_QH;exact(Zo (ZI (Yg (Zk Vw (ZL Yw (Ze (Zd 0) Zg)) (Zf (d:=(.int 2)) (by rfl) (by rfl)))) (Zw (Zf (d:=.non) (by rfl) (by rfl))) ZH)
 (Zo (show VS _ _ [] _ _ _ _ from(Z6 1 (ZJ [] (by rfl) (Ze (Zk ZD (Zd 0) (Zf (d:=(.int 1)) (by rfl) (by rfl))) Zg))))
 (ZI (ZW (X9 (Zd 1))) (Zw (Zf (d:=.non) (by rfl) (by rfl))) ZH)))
theorem Zls(T:Txt w K mg t):FnOk P w K mg base CX0 5 t.a_QR t.d_QR ["words"] (spD ⟨t.c,K,lms⟩ 1 V7):=by
 have G_QH:=(Zid (P:=P) (w:=w) (base:=base) T).mono (k:=4) (by decide);have G_QV:=(Zh9 (P:=P) (w:=w) (base:=base) T).mono (k:=4) (by decide);have G_QG:=(Zia (P:=P) (w:=w) (base:=base) T).mono (k:=4) (by decide);have G_QW:=(Zib (P:=P) (w:=w) (base:=base) T).mono (k:=4) (by decide);have G_QN:=(Zic (P:=P) (w:=w) (base:=base) T).mono (k:=4) (by decide)
 have MKF:∀q∈Js ⟨t.c,K,lms⟩ mt_MAKERS (JU t),∃fd ps,FnOk P w K mg base CX0 4 q.1 fd ps q.2/\Binds K fd ps []/\∃oc od osl,K.lookup q.1=some ⟨oc,od,.func fd,osl⟩:=by
  intro q hq;simp only [Js,mt_MAKERS,List.zip_cons_cons,List.zip_nil_right,List.map_cons,List.map_nil,List.mem_cons,List.mem_nil_iff,or_false]at hq;rcases hq with rfl|rfl|rfl|rfl|rfl
  · exact⟨_,_,G_QV,T.b_QV,(T.f_QV).at⟩
  · exact⟨_,_,G_QG,T.b_QG,(T.f_QG).at⟩
  · exact⟨_,_,G_QW,T.b_QW,(T.f_QW).at⟩
  · exact⟨_,_,G_QN,T.b_QN,(T.f_QN).at⟩
  · exact⟨_,_,G_QH,T.b_QH,(T.f_QH).at⟩
 refine YZ (φ:=Zjl) T.p_QR.f Zk4 (by conv=>lhs;whnf) (by conv=>lhs;whnf) (λcdv A outer s H E hr => ?_) rfl rfl;refine⟨_,(Zn (ZP (Vh (ZfZ (T.md_MAKERS P) (ZB (ZC (K:=K)) (pv 0) Zl (λ_ _=>rfl)) (by rfl) T.g_MAKERS)) (Zr (Zy XA)) ZO)
 (Zn (Z4 (i:=1) Zmq (by rfl) (by first|exact Or.inl rfl|exact Or.inr rfl) (Zf0 (T.md_MAKERS P) (ZB (ZC (K:=K)) (pv 0) Zl (λ_ _=>rfl)) (by rfl) T.g_MAKERS (λ_ _=>rfl)))
 (Zr (Zy (Zf1 (i:=1) (fs:=Js ⟨t.c,K,lms⟩ mt_MAKERS (JU t)) MKF hr (by rfl) (by first|exact Or.inl rfl|exact Or.inr (Or.inl rfl)|exact Or.inr (Or.inr rfl)) (Zc (pv 0) Zh)))))),[],?_⟩
 unfold Zjl;exact(Zo (ZI (ZW (Zf2 (tab:=mt_MAKERS) (as:=JU t) (by rfl) (Zk ZD (Zd 0) (Zf (d:=(.int 0)) (by rfl) (by rfl))))) (Zw (Zf (d:=.non) (by rfl) (by rfl))) ZH)
 (ZkG (tab:=mt_MAKERS) (as:=JU t) (by rfl) (Zk ZD (Zd 0) (Zf (d:=(.int 0)) (by rfl) (by rfl))) (Ze (Zd 0) Zg) (by rfl) (by rfl)))
theorem Zlt(T:Txt w K mg t):FnOk P w K mg base CX0 1 t.a_QO t.d_QO ["rows"] (spD ⟨t.c,K,lms⟩ 1 Zjm):=by
 refine YZ (φ:=Zkc) T.p_QO.f Zk5 (by conv=>lhs;whnf) (by conv=>lhs;whnf) (λcdv A outer s H E hr => ?_) rfl rfl;refine⟨_,(Zn (ZP (Ye (Y5 (cA:=⟨t.c,K,lms⟩) (hr.units)) (ZN (Yu (K:=K)) (by rfl) T.n_len boot_len (Zc (pv 0) Zh)) Zl (Z2 _)) (Zr Q3) ZO)
 (Zn (Z4 (i:=1) Zmr (by rfl) (by first|exact Or.inl rfl|exact Or.inr rfl) (ZB (ZC (K:=K)) (ZB (ZC (K:=K)) (pv 0) Zl (λ_ _=>rfl)) Zl (λ_ _=>rfl)))
 (Zn (ZP (PW.pt (X4 (Ye (Vv (cA:=⟨t.c,K,lms⟩) (hr.units)) (ZB (ZC (K:=K)) (pv 1) Zl (λ_ _=>rfl)) (ZG [109,97,114,107,115] (by decide +kernel)) (Z2 _)) (Vr (Ye (Vv (cA:=⟨t.c,K,lms⟩) (hr.units)) (ZN (Yu (K:=K)) (by rfl) T.n_len boot_len (Zc (pv 1) Zh)) Zl (Z2 _))))) (Zr Q3) ZO)
 (Zr (Zy (ZB (ZC (K:=K)) (pv 1) Zl (λ_ _=>rfl))))))),[],?_⟩
 unfold Zkc;exact(Zo (ZI (Yg (Zk Y6 (ZL Yw (Ze (Zd 0) Zg)) (Zf (d:=(.int 0)) (by rfl) (by rfl)))) Qo ZH)
 (Zo (show VS _ _ [] _ _ _ _ from(Z6 1 (Zk ZD (Zk ZD (Zd 0) (Zf (d:=(.int 0)) (by rfl) (by rfl))) (Zf (d:=(.int 1)) (by rfl) (by rfl)))))
 (Zo (ZI (X8 (Yg (Zk Vw (Zk ZD (Zd 1) (Zf (d:=(.int 0)) (by rfl) (by rfl))) (Zf (d:=(.str [109,97,114,107,115])) (by rfl) (by rfl)))) (Yg (Zk Vw (ZL Yw (Ze (Zd 1) Zg)) (Zf (d:=(.int 2)) (by rfl) (by rfl))))) Qo ZH)
 (Zw (Zk ZD (Zd 1) (Zf (d:=(.int 1)) (by rfl) (by rfl)))))))
theorem ZbX(T:Txt w K mg t):L2.LmOq P w K mg 4 Zar (Vl ⟨t.c,K,lms⟩ 1 Zap):=by
 have GM_Q7:∀bb:Heap,FnOk P w K mg bb CX0 3 t.a_Q7 t.d_Q7 ["self", "marks", "mark", "least", "most"] (spI ⟨t.c,K,lms⟩ 5 UC):=λbb=>(Zh2 T).mono (by decide)
 refine Jv (ε:=Zad) (by conv=>lhs;whnf) (by conv=>lhs;whnf) ZbV (λ_ _ _ _ us hl=>match us,hl with|[_],_=>rfl) (λbase f c cl A outer s H hr => ?_) rfl rfl;refine⟨_,(XC T.mk_Gap ((GM_Q7 base)) hr (by rfl) T.g_Gap T.b_Q7 .nil Zv (Zc (pv 0) (Zc (ZB (ZC (K:=K)) (pv 1) Zl (λ_ _=>rfl)) (Zc (pv 2) (Zc (pv 3) Zh))))),.cl,?_⟩;unfold Zad;exact(XF (c:="Gap") [] (by rfl) (Ze (Zd 0) (Ze (Zk ZD (Zd 1) (Zf (d:=(.int 1)) (by rfl) (by rfl))) (Ze (Zd 2) (Ze (Zd 3) Zg)))))
theorem Zbm(T:Txt w K mg t):L2.LmOq P w K mg 4 Zav (Vl ⟨t.c,K,lms⟩ 1 Zah):=by
 have GM_QS:∀bb:Heap,FnOk P w K mg bb CX0 3 t.a_QS t.d_QS ["self", "marks", "word"] (spI ⟨t.c,K,lms⟩ 3 QM):=λbb=>(Zh3 T).mono (by decide)
 refine Jv (ε:=Zaa) (by conv=>lhs;whnf) (by conv=>lhs;whnf) Zbk (λ_ _ _ _ us hl=>match us,hl with|[_],_=>rfl) (λbase f c cl A outer s H hr => ?_) rfl rfl;refine⟨_,(XC T.mk_Never ((GM_QS base)) hr (by rfl) T.g_Never T.p_QS.b .nil Zv (Zc (pv 0) (Zc (ZB (ZC (K:=K)) (pv 1) Zl (λ_ _=>rfl)) Zh))),.cl,?_⟩;unfold Zaa;exact(XF (c:="Never") [] (by rfl) (Ze (Zd 0) (Ze (Zk ZD (Zd 1) (Zf (d:=(.int 1)) (by rfl) (by rfl))) Zg)))
theorem ZbY(T:Txt w K mg t):L2.LmOq P w K mg 4 ZaP (Vl ⟨t.c,K,lms⟩ 1 Zaq):=by
 have GM_Q5:∀bb:Heap,FnOk P w K mg bb CX0 3 t.a_Q5 t.d_Q5 ["self", "marks", "worths", "low", "high"] (spI ⟨t.c,K,lms⟩ 5 QN):=λbb=>(Zh4 T).mono (by decide)
 refine Jv (ε:=Zae) (by conv=>lhs;whnf) (by conv=>lhs;whnf) ZbW (λ_ _ _ _ us hl=>match us,hl with|[_],_=>rfl) (λbase f c cl A outer s H hr => ?_) rfl rfl;refine⟨_,(XC T.mk_Sum ((GM_Q5 base)) hr (by rfl) T.g_Sum T.p_Q5.b .nil Zv (Zc (pv 0) (Zc (Xh (ZbG (K:=K)) (by rfl) T.n_tuple boot_tuple (Zc (UN (UP (K:=K)) (pv 1) (UM Zl) UL) Zh)) (Zc (ZB (ZC (K:=K)) (pv 1) Zl (λ_ _=>rfl)) (Zc (ZB (ZC (K:=K)) (pv 1) Zl (λ_ _=>rfl)) Zh))))),.cl,?_⟩
 unfold Zae;exact(XF (c:="Sum") [] (by rfl) (Ze (Zd 0) (Ze (ZaV (Ze (Qq (Or.inl rfl) (Zd 1) (UW (Zf (d:=(.int 2)) (by rfl) (by rfl))) UV) Zg)) (Ze (Zk ZD (Zd 1) (Zf (d:=(.int 0)) (by rfl) (by rfl))) (Ze (Zk ZD (Zd 1) (Zf (d:=(.int 1)) (by rfl) (by rfl))) Zg)))))
theorem Zbp(T:Txt w K mg t):L2.LmOq P w K mg 4 ZaH (Vl ⟨t.c,K,lms⟩ 1 Zan):=by
 have GM_Q1:∀bb:Heap,FnOk P w K mg bb CX0 3 t.a_Q1 t.d_Q1 ["self", "marks", "mark", "every", "at"] (spI ⟨t.c,K,lms⟩ 5 QO):=λbb=>(Zh5 T).mono (by decide)
 refine Jv (ε:=Zac) (by conv=>lhs;whnf) (by conv=>lhs;whnf) Zbo (λ_ _ _ _ us hl=>match us,hl with|[_],_=>rfl) (λbase f c cl A outer s H hr => ?_) rfl rfl;refine⟨_,(XC T.mk_Turn ((GM_Q1 base)) hr (by rfl) T.g_Turn T.p_Q1.b .nil Zv (Zc (pv 0) (Zc (ZB (ZC (K:=K)) (pv 1) Zl (λ_ _=>rfl)) (Zc (pv 2) (Zc (pv 3) Zh))))),.cl,?_⟩;unfold Zac;exact(XF (c:="Turn") [] (by rfl) (Ze (Zd 0) (Ze (Zk ZD (Zd 1) (Zf (d:=(.int 1)) (by rfl) (by rfl))) (Ze (Zd 2) (Ze (Zd 3) Zg)))))
theorem Zbn(T:Txt w K mg t):L2.LmOq P w K mg 4 Zaw (Vl ⟨t.c,K,lms⟩ 1 Zai):=by
 have GM_QQ:∀bb:Heap,FnOk P w K mg bb CX0 3 t.a_QQ t.d_QQ ["self", "marks", "most"] (spI ⟨t.c,K,lms⟩ 3 QP):=λbb=>(Zh6 T).mono (by decide)
 refine Jv (ε:=Zab) (by conv=>lhs;whnf) (by conv=>lhs;whnf) Zbl (λ_ _ _ _ us hl=>match us,hl with|[_],_=>rfl) (λbase f c cl A outer s H hr => ?_) rfl rfl;refine⟨_,(XC T.mk_Alike ((GM_QQ base)) hr (by rfl) T.g_Alike T.p_QQ.b .nil Zv (Zc (pv 0) (Zc (pv 1) Zh))),.cl,?_⟩;unfold Zab;exact(XF (c:="Alike") [] (by rfl) (Ze (Zd 0) (Ze (Zd 1) Zg)))
theorem Zlu(T:Txt w K mg t):FnOk P w K mg base CX0 6 t.a_QK t.d_QK ["page"] (spD ⟨t.c,K,lms⟩ 1 JF):=by
 have LMS:∀m∈(lt_all.map λx=>((⟨t.c,K,lms⟩:Kn).lm x.1,Vl ⟨t.c,K,lms⟩ x.2.1 x.2.2)),L2.LmOq P w K mg 4 m.1 m.2:=by
  intro m hm;simp only [lt_all,List.map_cons,List.map_nil,List.mem_cons,List.mem_nil_iff,or_false]at hm;rcases hm with rfl|rfl|rfl|rfl|rfl
  · exact(ZbX T).mono (by decide)
  · exact(Zbm T).mono (by decide)
  · exact(ZbY T).mono (by decide)
  · exact(Zbp T).mono (by decide)
  · exact(Zbn T).mono (by decide)
 have GM_Q4:=(Zh7 (P:=P) (w:=w) (base:=base) T).mono (k:=4) (by decide);have G_QH:=(Zid (P:=P) (w:=w) (base:=base) T).mono (k:=5) (by decide);have G_QV:=(Zh9 (P:=P) (w:=w) (base:=base) T).mono (k:=5) (by decide);have G_QO:=(Zlt (P:=P) (w:=w) (base:=base) T).mono (k:=5) (by decide);have G_QG:=(Zia (P:=P) (w:=w) (base:=base) T).mono (k:=5) (by decide)
 have G_Qa:=(Zlp (P:=P) (w:=w) (base:=base) T).mono (k:=5) (by decide);have G_QR:=(Zls (P:=P) (w:=w) (base:=base) T).mono (k:=5) (by decide);have G_QW:=(Zib (P:=P) (w:=w) (base:=base) T).mono (k:=5) (by decide);have G_QN:=(Zic (P:=P) (w:=w) (base:=base) T).mono (k:=5) (by decide);refine YZ (φ:=Zjn) T.p_QK.f Zk6 (by conv=>lhs;whnf) (by conv=>lhs;whnf) (λcdv A outer s H E hr => ?_) rfl rfl
 refine⟨_,(Zn (Z4 (i:=1) QW (by rfl) (by first|exact Or.inl rfl|exact Or.inr rfl) (ZA (G_Qa) hr (by rfl) T.p_Qa.g T.p_Qa.k T.p_Qa.b .nil Zv (Zc (pv 0) Zh)))
 (Zn (Z4 (i:=2) QW (by rfl) (by first|exact Or.inl rfl|exact Or.inr rfl) (ZA (G_QO) hr (by rfl) T.p_QO.g T.p_QO.k T.p_QO.b .nil Zv (Zc (pv 1) Zh)))
 (Zn (Z4 (i:=3) QW (by rfl) (by first|exact Or.inl rfl|exact Or.inr rfl) (XB Zh))
 (Zn ((Qj PassesOwn.never (by rfl) (XE (K:=K) (UN (UP (K:=K)) (pv 1) (UM Zl) UL)) (ZhU (K:=K) (n:=2) (J7 (YI (i:=4) QW) (J7 (YI (i:=5) QW) Zeg))) (Zn (Z4 (i:=6) QW (by rfl) (by first|exact Or.inl rfl|exact Or.inr rfl) (ZA (G_QR) hr (by rfl) T.p_QR.g T.p_QR.k T.p_QR.b .nil Zv (Zc (pv 5) Zh)))
 (Zn (ZP (Vh (Vg (pv 6))) (Zr Q3) ZO)
 (Zr (YH (XI (K:=K) PySem.F.plainAttrs_list PySem.F.slot_list_append PySem.F.type_list_append Za1 (pv 3) (Zc (pv 6) Zh))))))))
 (Zr (Zy (XC T.mk_All (GM_Q4) hr (by rfl) T.g_All T.p_Q4.b .nil Zv (Zc (pv 2) (Zc (X0 (by rfl) (CompSd.mk1 (tn:=["maker"]) (cn:=["marks"]) (js:=[2]) (osc:=defScope JO) (oN:=["page", "rows", "marks", "makers", "number", "words", "maker"]) (by rfl) (by rfl) (by rfl) (by decide +kernel)) (XE (K:=K) (pv 3)) (λC s₂ H₂ fp=>YI (i:=0) Zms) (λC s₂ H₂ fp=>Xy) (λC s₂ H₂ fp=>(ZfV (i:=0) (ms:=lt_all.map λx=>((⟨t.c,K,lms⟩:Kn).lm x.1,Vl ⟨t.c,K,lms⟩ x.2.1 x.2.2)) LMS hr (by rfl) (by first|exact Or.inl rfl|exact Or.inr (Or.inl rfl)|exact Or.inr (Or.inr rfl)) (Zc (pv 1) Zh)))) Zh))))))))),[],?_⟩
 unfold Zjn;exact(Zo (show VS _ _ [] _ _ _ _ from(Z6 1 (ZJ [] (by rfl) (Ze (Zd 0) Zg))))
 (Zo (show VS _ _ [] _ _ _ _ from(Z6 2 (ZJ [] (by rfl) (Ze (Zd 1) Zg))))
 (Zo (show VS _ _ [3] _ _ _ _ from(Jg 3 (Y4 Zg)))
 (Zo (Qp (Xq (Qq (Or.inl rfl) (Zd 1) (UW (Zf (d:=(.int 1)) (by rfl) (by rfl))) UV)) (Zgt (ZaW 4 (by rfl) (by rfl) (ZaW 5 (by rfl) (by rfl) Zep))) (Zo (show VS _ _ [3] _ _ _ _ from(Z6 6 (ZJ [] (by rfl) (Ze (Zd 5) Zg))))
 (Zo (ZI (ZW (X9 (Zd 6))) Qo ZH)
 (Zd6 3 (by rfl) (Zd 6)))))
 (VS.frz (ow1:=[]) 3 (Zw (XF (c:="All") [] (by rfl) (Ze (Zd 2) (Ze (VF.cl (Xj (by rfl) (Xq (Zd 3)) (YN 0) Xi (ZfY (tab:=lt_all) (Ze (Zd 1) Zg)))) Zg)))))))))
theorem Zlv(T:Txt w K mg t):FnOk P w K mg base (CX1 P w) 1 t.a_QM t.d_QM ["rule"] (spX ⟨t.c,K,lms⟩ 1 Zkf JG):=by
 refine ZgR (φ:=Zkd) (χ:=Zke) T.p_QM.f Zk7 (by conv=>lhs;whnf) (by conv=>lhs;whnf) (λcdv A outer s H E hr => ?_) rfl rfl rfl;refine⟨_,(Zn (ZP (YB (ZN (Xk (K:=K)) (by rfl) T.n_isinstance boot_isinstance (Zc (pv 0) (Zc (XU (v:=.ref (t.c "Gap")) (by rfl) T.g_Gap (by rfl)) Zh)))) (Zn (Z4 (i:=1) Zkq (by rfl) (by first|exact Or.inl rfl|exact Or.inr rfl) (Zc8 (Vh (Vg (YC (K:=K) (pv 0)))) (ZG [97,110,121] (by decide +kernel)) (Xh XY (by rfl) T.n_str boot_str (Zc (YC (K:=K) (pv 0)) Zh))))
 (Zr (Zy (XB (Zc (ZG [103,97,112] (by decide +kernel)) (Zc (YC (K:=K) (pv 0)) (Zc (Xh XY (by rfl) T.n_str boot_str (Zc (YC (K:=K) (pv 0)) Zh)) (Zc (pv 1) Zh)))))))) ZO)
 (Zn (ZP (YB (ZN (Xk (K:=K)) (by rfl) T.n_isinstance boot_isinstance (Zc (pv 0) (Zc (XU (v:=.ref (t.c "Never")) (by rfl) T.g_Never (by rfl)) Zh)))) (Zr (Zy (XB (Zc (ZG [110,101,118,101,114] (by decide +kernel)) (Zc (YC (K:=K) (pv 0)) Zh))))) ZO)
 (Zn (ZP (YB (ZN (Xk (K:=K)) (by rfl) T.n_isinstance boot_isinstance (Zc (pv 0) (Zc (XU (v:=.ref (t.c "Sum")) (by rfl) T.g_Sum (by rfl)) Zh)))) (Zr (Zy (ZF (Jk (K:=K)) (XB (Zc (ZG [115,117,109] (by decide +kernel)) (Zc (Xh XY (by rfl) T.n_str boot_str (Zc (YC (K:=K) (pv 0)) Zh)) (Zc (Xh XY (by rfl) T.n_str boot_str (Zc (YC (K:=K) (pv 0)) Zh)) Zh)))) (X0 (by rfl) (CompSd.mk1 (tn:=["worth"]) (cn:=[]) (js:=[]) (osc:=defScope JP) (oN:=["rule", "most"]) (by rfl) (by rfl) (by rfl) (by decide +kernel)) (XE (K:=K) (YC (K:=K) (pv 0))) (λC s₂ H₂ fp=>YI (i:=0) nd1) (λC s₂ H₂ fp=>Xy) (λC s₂ H₂ fp=>(Xh XY (by rfl) T.n_str boot_str (Zc (pv 0) Zh))))))) ZO)
 (Zn (ZP (YB (ZN (Xk (K:=K)) (by rfl) T.n_isinstance boot_isinstance (Zc (pv 0) (Zc (XU (v:=.ref (t.c "Turn")) (by rfl) T.g_Turn (by rfl)) Zh)))) (Zr (Zy (XB (Zc (ZG [116,117,114,110] (by decide +kernel)) (Zc (YC (K:=K) (pv 0)) (Zc (Xh XY (by rfl) T.n_str boot_str (Zc (YC (K:=K) (pv 0)) Zh)) (Zc (Xh XY (by rfl) T.n_str boot_str (Zc (YC (K:=K) (pv 0)) Zh)) Zh))))))) ZO)
 (Zn (ZP (YB (ZN (Xk (K:=K)) (by rfl) T.n_isinstance boot_isinstance (Zc (pv 0) (Zc (XU (v:=.ref (t.c "Alike")) (by rfl) T.g_Alike (by rfl)) Zh)))) (Zr (Zy (XB (Zc (ZG [97,108,105,107,101] (by decide +kernel)) (Zc (Xh XY (by rfl) T.n_str boot_str (Zc (YC (K:=K) (pv 0)) Zh)) Zh))))) ZO)
 (Zr (ZfP (by rfl) T.g_BadRule (T.ex_BadRule).ex Zcr (Zc (ZG [112,108,97,105,110,32,114,117,108,101,115,32,97,110,100,32,97,110,32,65,108,108,32,104,97,118,101,32,110,111,32,114,111,119] (by decide +kernel)) Zh)))))))),[],?_,?_⟩
 · unfold Zkd
   exact(Zo (ZI (ZW (YO (λ_ h=>h) T.isi_Gap (Zd 0))) (Zo (show VS _ _ [] _ _ _ _ from(Z6 1 (ZgP (ZW (X9 (Z3 T.fl_most (Zd 0)))) (Zf (d:=(.str [97,110,121])) (by rfl) (by rfl)) (ZL Y7 (Ze (Z3 T.fl_most (Zd 0)) Zg)))))
 (Zw (VF.cl (Y4 (Ze (Zf (d:=(.str [103,97,112])) (by rfl) (by rfl)) (Ze (Z3 T.fl_mark (Zd 0)) (Ze (ZL Y7 (Ze (Z3 T.fl_least (Zd 0)) Zg)) (Ze (Zd 1) Zg)))))))) ZH)
 (Zo (ZI (ZW (YO (λ_ h=>h) T.isi_Never (Zd 0))) (Zw (VF.cl (Y4 (Ze (Zf (d:=(.str [110,101,118,101,114])) (by rfl) (by rfl)) (Ze (Z3 T.fl_word (Zd 0)) Zg))))) ZH)
 (Zo (ZI (ZW (YO (λ_ h=>h) T.isi_Sum (Zd 0))) (Zw (VF.cl (U1 (VF.cl (Y4 (Ze (Zf (d:=(.str [115,117,109])) (by rfl) (by rfl)) (Ze (ZL Y7 (Ze (Z3 T.fl_low (Zd 0)) Zg)) (Ze (ZL Y7 (Ze (Z3 T.fl_high (Zd 0)) Zg)) Zg))))) (VF.cl (Xj (by rfl) (Xq (Z3 T.fl_worths (Zd 0))) (YN 0) Xi (ZL Y7 (Ze (Zd 0) Zg))))))) ZH)
 (Zo (ZI (ZW (YO (λ_ h=>h) T.isi_Turn (Zd 0))) (Zw (VF.cl (Y4 (Ze (Zf (d:=(.str [116,117,114,110])) (by rfl) (by rfl)) (Ze (Z3 T.fl_mark (Zd 0)) (Ze (ZL Y7 (Ze (Z3 T.fl_every (Zd 0)) Zg)) (Ze (ZL Y7 (Ze (Z3 T.fl_at (Zd 0)) Zg)) Zg))))))) ZH)
 (Zo (ZI (ZW (YO (λ_ h=>h) T.isi_Alike (Zd 0))) (Zw (VF.cl (Y4 (Ze (Zf (d:=(.str [97,108,105,107,101])) (by rfl) (by rfl)) (Ze (ZL Y7 (Ze (Z3 T.fl_most (Zd 0)) Zg)) Zg))))) ZH)
 Qo)))))
 · unfold Zke
   exact(Qy (owB:=[]) (owC:=[]) Qx (ZI (ZW (YO (λ_ h=>h) T.isi_Gap (Zd 0))) (Zo (show VS _ _ [] _ _ _ _ from(Z6 1 (ZgP (ZW (X9 (Z3 T.fl_most (Zd 0)))) (Zf (d:=(.str [97,110,121])) (by rfl) (by rfl)) (ZL Y7 (Ze (Z3 T.fl_most (Zd 0)) Zg)))))
 (Zw (VF.cl (Y4 (Ze (Zf (d:=(.str [103,97,112])) (by rfl) (by rfl)) (Ze (Z3 T.fl_mark (Zd 0)) (Ze (ZL Y7 (Ze (Z3 T.fl_least (Zd 0)) Zg)) (Ze (Zd 1) Zg)))))))) ZH)
 (Qy (owB:=[]) (owC:=[]) Qx (ZI (ZW (YO (λ_ h=>h) T.isi_Never (Zd 0))) (Zw (VF.cl (Y4 (Ze (Zf (d:=(.str [110,101,118,101,114])) (by rfl) (by rfl)) (Ze (Z3 T.fl_word (Zd 0)) Zg))))) ZH)
 (Qy (owB:=[]) (owC:=[]) Qx (ZI (ZW (YO (λ_ h=>h) T.isi_Sum (Zd 0))) (Zw (VF.cl (U1 (VF.cl (Y4 (Ze (Zf (d:=(.str [115,117,109])) (by rfl) (by rfl)) (Ze (ZL Y7 (Ze (Z3 T.fl_low (Zd 0)) Zg)) (Ze (ZL Y7 (Ze (Z3 T.fl_high (Zd 0)) Zg)) Zg))))) (VF.cl (Xj (by rfl) (Xq (Z3 T.fl_worths (Zd 0))) (YN 0) Xi (ZL Y7 (Ze (Zd 0) Zg))))))) ZH)
 (Qy (owB:=[]) (owC:=[]) Qx (ZI (ZW (YO (λ_ h=>h) T.isi_Turn (Zd 0))) (Zw (VF.cl (Y4 (Ze (Zf (d:=(.str [116,117,114,110])) (by rfl) (by rfl)) (Ze (Z3 T.fl_mark (Zd 0)) (Ze (ZL Y7 (Ze (Z3 T.fl_every (Zd 0)) Zg)) (Ze (ZL Y7 (Ze (Z3 T.fl_at (Zd 0)) Zg)) Zg))))))) ZH)
 (Qy (owB:=[]) (owC:=[]) Qx (ZI (ZW (YO (λ_ h=>h) T.isi_Alike (Zd 0))) (Zw (VF.cl (Y4 (Ze (Zf (d:=(.str [97,108,105,107,101])) (by rfl) (by rfl)) (Ze (ZL Y7 (Ze (Z3 T.fl_most (Zd 0)) Zg)) Zg))))) ZH)
 (ZfQ "BadRule" (by rfl) (Ze (Zf (d:=(.str [112,108,97,105,110,32,114,117,108,101,115,32,97,110,100,32,97,110,32,65,108,108,32,104,97,118,101,32,110,111,32,114,111,119])) (by rfl) (by rfl)) Zg)))))))
theorem ZgU(T:Txt w K mg t):FnOk P w K mg base (CX1 P w) 2 t.a_Q3 t.d_Q3 ["rule"] (spX ⟨t.c,K,lms⟩ 1 Vn UE):=by
 have G_QM:=(Zlv (P:=P) (w:=w) (base:=base) T).mono (k:=1) (by decide);refine ZgR (φ:=Zkg) (χ:=Zkh) T.p_Q3.f Zk8 (by conv=>lhs;whnf) (by conv=>lhs;whnf) (λcdv A outer s H E hr => ?_) rfl rfl rfl;refine⟨_,(Zr (Zy (XI (K:=K) PySem.F.plainAttrs_str PySem.F.slot_str_join PySem.F.type_str_join (Qr (K:=K)) (ZG [32] (by decide +kernel)) (Zc (ZA (G_QM) hr (by rfl) T.p_QM.g T.p_QM.k T.p_QM.b .nil ZcN (Zc (pv 0) Zh)) Zh)))),[],?_,?_⟩
 · unfold Zkg
   exact(Zw (Vz Qt (Zf (d:=(.str [32])) (by rfl) (by rfl)) (Ze (Ui [] (by rfl) (Ze (Zd 0) Zg)) Zg)))
 · unfold Zkh
   exact(VXs.vx (Zhh (ZiO (Zf (d:=(.str [32])) (by rfl) (by rfl)) (ZaX [] (by rfl) (Ze (Zd 0) Zg)))))
theorem Zie(T:Txt w K mg t):FnOk P w K mg base (CX1 P w) 3 t.a_QL t.d_QL ["rule"] (spX ⟨t.c,K,lms⟩ 1 Qb Zjo):=by
 have G_QB:=(Zh8 (P:=P) (w:=w) (base:=base) T).mono (k:=2) (by decide);have G_Q3:=(ZgU (P:=P) (w:=w) (base:=base) T).mono (k:=2) (by decide);refine ZgR (φ:=Zki) (χ:=Zkj) T.p_QL.f Zk9 (by conv=>lhs;whnf) (by conv=>lhs;whnf) (λcdv A outer s H E hr => ?_) rfl rfl rfl;refine⟨_,(Zn (Z4 (i:=1) Zmt (by rfl) (by first|exact Or.inl rfl|exact Or.inr rfl) (ZF (Jk (K:=K)) (XB (Zc (ZF X7 (ZG [109,97,114,107,115,32] (by decide +kernel)) (YC (K:=K) (pv 0))) Zh)) (Zf3 Zcw (by rfl) (CompSd.mk1 (tn:=["each"]) (cn:=[]) (js:=[]) (osc:=defScope JQ) (oN:=["rule", "rows"]) (by rfl) (by rfl) (by rfl) (by decide +kernel)) (XE (K:=K) (Za6 (cA:=⟨t.c,K,lms⟩) (tab:=Vo) (m:="rules_told") ⟨⟨t.a_QB,t.d_QB,["self"],T.cl_All,T.me_All_rules_told,G_QB,T.p_QB.b⟩,trivial⟩ hr (pv 0))) (λC s₂ H₂ fp xe=>YI (i:=0) Zmu) (λC s₂ H₂ fp xe=>Xy) (λC s₂ H₂ fp xe hX=>(ZA (G_Q3) hr (by rfl) T.p_Q3.g T.p_Q3.k T.p_Q3.b .nil hX (Zc (pv 0) Zh))))))
 (Zr (Zy (XI (K:=K) PySem.F.plainAttrs_str PySem.F.slot_str_join PySem.F.type_str_join (Qr (K:=K)) (ZG [10] (by decide +kernel)) (Zc (pv 1) Zh))))),[],?_,?_⟩
 · unfold Zki
   exact(Zo (show VS _ _ [] _ _ _ _ from(Z6 1 (VF.cl (U1 (VF.cl (Y4 (Ze (Zk XJ (Zf (d:=(.str [109,97,114,107,115,32])) (by rfl) (by rfl)) (Z3 T.fl_marks (Zd 0))) Zg))) (VF.cl (Xj (by rfl) (Xq (Ji (Zd 0) Zg)) (YN 0) Xi (Ui [] (by rfl) (Ze (Zd 0) Zg))))))))
 (Zw (Vz Qt (Zf (d:=(.str [10])) (by rfl) (by rfl)) (Ze (Zd 1) Zg))))
 · unfold Zkj
   exact(Qy (owB:=[]) (owC:=[]) (VXs.vx (Zhg (Zhs (VF.cl (Y4 (Ze (Zk XJ (Zf (d:=(.str [109,97,114,107,115,32])) (by rfl) (by rfl)) (Z3 T.fl_marks (Zd 0))) Zg))) (Zf4 (by rfl) (Xq (Ji (Zd 0) Zg)) (YN 0) Xi (Ui [] (by rfl) (Ze (Zd 0) Zg)) (ZaX [] (by rfl) (Ze (Zd 0) Zg)))))) (show VS _ _ [] _ _ _ _ from(Z6 1 (VF.cl (U1 (VF.cl (Y4 (Ze (Zk XJ (Zf (d:=(.str [109,97,114,107,115,32])) (by rfl) (by rfl)) (Z3 T.fl_marks (Zd 0))) Zg))) (VF.cl (Xj (by rfl) (Xq (Ji (Zd 0) Zg)) (YN 0) Xi (Ui [] (by rfl) (Ze (Zd 0) Zg))))))))
 Qx)
theorem Zif(T:Txt w K mg t):FnOk P w K mg base CX0 1 t.a_QE t.d_QE ["script", "k"] (spD ⟨t.c,K,lms⟩ 2 X1):=by
 refine YZ (φ:=JH) T.p_QE.f Zla (by conv=>lhs;whnf) (by conv=>lhs;whnf) (λcdv A outer s H E hr => ?_) rfl rfl;refine⟨_,(Zn (ZP (Ye Zfl (pv 1) (ZN (Yu (K:=K)) (by rfl) T.n_len boot_len (Zc (pv 0) Zh)) (Z2 _)) (Zr (Zy (ZB (ZC (K:=K)) (pv 0) (pv 1) (λ_ _=>rfl)))) ZO)
 (Zr (Zy Zl))),[],?_⟩
 unfold JH;exact(Zo (ZI (Yg (Zk Ug (Zd 1) (ZL Yw (Ze (Zd 0) Zg)))) (Zw (Zk ZD (Zd 0) (Zd 1))) ZH)
 (Zw (Zf (d:=(.int 0)) (by rfl) (by rfl))))
theorem Zlw(T:Txt w K mg t):FnOk P w K mg base CX0 1 t.a_QJ t.d_QJ ["cell"] (spD ⟨t.c,K,lms⟩ 1 JI):=by
 refine YZ (φ:=Zjp) T.p_QJ.f Zlb (by conv=>lhs;whnf) (by conv=>lhs;whnf) (λcdv A outer s H E hr => ?_) rfl rfl;refine⟨_,(Zn (Z4 (i:=1) Zl9 (by rfl) (by first|exact Or.inl rfl|exact Or.inr rfl) (ZG [97,98,99,100,101,102,103,104,105,106,107,108,109,110,111,112,113,114,115,116,117,118,119,120,121,122,48,49,50,51,52,53,54,55,56,57] (by decide +kernel)))
 (Zn (Z4 (i:=2) Zl9 (by rfl) (by first|exact Or.inl rfl|exact Or.inr rfl) (ZF X7 Zl (ZF YJ (ZF Vs (pv 0) Zl) Zl)))
 (Zr (Zy (XI (K:=K) PySem.F.plainAttrs_str PySem.F.slot_str_join PySem.F.type_str_join (Qr (K:=K)) (ZG [] (by decide +kernel)) (Zc (X0 (by rfl) (CompSd.mk1 (tn:=["k"]) (cn:=["some", "cell", "step"]) (js:=[1,0,2]) (osc:=defScope JR) (oN:=["cell", "some", "step"]) (by rfl) (by rfl) (by rfl) (by decide +kernel)) (UJ (by rfl) T.n_range (Zc (ZF X7 Zl (ZF YJ (ZF Vs (pv 0) Zl) Zl)) Zh)) (λC s₂ H₂ fp=>YI (i:=0) Zmv) (λC s₂ H₂ fp=>Xy) (λC s₂ H₂ fp=>(ZB (ZC (K:=K)) (pv 1) (ZF YJ (ZF X7 (pv 2) (ZF Zel (pv 0) (pv 3))) Zl) (λ_ _=>rfl)))) Zh)))))),[],?_⟩
 unfold Zjp;exact(Zo (show VS _ _ [] _ _ _ _ from(Z6 1 (Zf (d:=(.str [97,98,99,100,101,102,103,104,105,106,107,108,109,110,111,112,113,114,115,116,117,118,119,120,121,122,48,49,50,51,52,53,54,55,56,57])) (by rfl) (by rfl))))
 (Zo (show VS _ _ [] _ _ _ _ from(Z6 2 (Zk XJ (Zf (d:=(.int 1)) (by rfl) (by rfl)) (Zk YM (Zk Vx (Zd 0) (Zf (d:=(.int 36)) (by rfl) (by rfl))) (Zf (d:=(.int 11)) (by rfl) (by rfl))))))
 (Zw (Vz Qt (Zf (d:=(.str [])) (by rfl) (by rfl)) (Ze (VF.cl (Xj (by rfl) (UT (Ze (Zk XJ (Zf (d:=(.int 2)) (by rfl) (by rfl)) (Zk YM (Zk Vx (Zd 0) (Zf (d:=(.int 396)) (by rfl) (by rfl))) (Zf (d:=(.int 3)) (by rfl) (by rfl)))) Zg) UU) (YN 0) Xi (Zk ZD (Zd 1) (Zk YM (Zk XJ (Zd 2) (Zk Zgq (Zd 0) (Zd 3))) (Zf (d:=(.int 36)) (by rfl) (by rfl)))))) Zg)))))
theorem Zlx(T:Txt w K mg t):FnOk P w K mg base CX0 1 t.a_QU t.d_QU ["marks", "kind", "one", "two", "three"] (spD ⟨t.c,K,lms⟩ 5 Zjr):=by
 refine YZ (φ:=Zjq) T.p_QU.f Zlc (by conv=>lhs;whnf) (by conv=>lhs;whnf) (λcdv A outer s H E hr => ?_) rfl rfl;refine⟨_,(Zn (Z4 (i:=5) JV (by rfl) (by first|exact Or.inl rfl|exact Or.inr rfl) (ZB (ZC (K:=K)) (pv 0) (ZF YJ (pv 2) (ZN (Yu (K:=K)) (by rfl) T.n_len boot_len (Zc (pv 0) Zh))) (λ_ _=>rfl)))
 (Zn (ZP (Ye (Y5 (cA:=⟨t.c,K,lms⟩) (hr.units)) (ZF YJ (pv 1) Zl) Zl (Z2 _)) (Zn (Z4 (i:=6) JV (by rfl) (by first|exact Or.inl rfl|exact Or.inr rfl) (ZB (ZC (K:=K)) (XB (Zc (ZF YJ (pv 3) Zl) (Zc (ZF YJ (pv 3) Zl) Zh))) (ZF YJ (pv 4) Zl) (λ_ _=>rfl)))
 (Zn (ZP (Ye (Y5 (cA:=⟨t.c,K,lms⟩) (hr.units)) (ZF YJ (ZF Vs (pv 4) Zl) Zl) Zl (Z2 _)) (Zr (Zy (X6 (Zc (ZG [103,97,112] (by decide +kernel)) (Zc (pv 5) (Zc (pv 6) (Zc XA Zh))))))) ZO)
 (Zr (Zy (X6 (Zc (ZG [103,97,112] (by decide +kernel)) (Zc (pv 5) (Zc (pv 6) (Zc (ZN (ZeL (by rfl)) (by rfl) T.n_min boot_min (Zc Zl (Zc (ZF X7 (pv 6) (ZF YJ (ZF Vs (pv 4) Zl) Zl)) Zh))) Zh))))))))) ZO)
 (Zn (ZP (Ye (Y5 (cA:=⟨t.c,K,lms⟩) (hr.units)) (ZF YJ (pv 1) Zl) Zl (Z2 _)) (Zn (Z4 (i:=7) JV (by rfl) (by first|exact Or.inl rfl|exact Or.inr rfl) (ZF X7 Zl (ZF YJ (pv 3) Zl)))
 (Zr (Zy (X6 (Zc (ZG [110,101,118,101,114] (by decide +kernel)) (Zc (XI (K:=K) PySem.F.plainAttrs_str PySem.F.slot_str_join PySem.F.type_str_join (Qr (K:=K)) (ZG [] (by decide +kernel)) (Zc (X0 (by rfl) (CompSd.mk1 (tn:=["k"]) (cn:=["marks", "one"]) (js:=[0,2]) (osc:=defScope JS) (oN:=["marks", "kind", "one", "two", "three", "mark", "lowest", "size", "worths", "every"]) (by rfl) (by rfl) (by rfl) (by decide +kernel)) (UJ (by rfl) T.n_range (Zc (pv 7) Zh)) (λC s₂ H₂ fp=>YI (i:=0) Zmw) (λC s₂ H₂ fp=>Xy) (λC s₂ H₂ fp=>(ZB (ZC (K:=K)) (pv 1) (ZF YJ (ZF Vs (pv 2) (ZB (ZC (K:=K)) (XB (Zc Zl (Zc Zl (Zc Zl (Zc Zl (Zc Zl (Zc Zl Zh))))))) (pv 0) (λ_ _=>rfl))) (ZN (Yu (K:=K)) (by rfl) T.n_len boot_len (Zc (pv 1) Zh))) (λ_ _=>rfl)))) Zh)) Zh)))))) ZO)
 (Zn (ZP (Ye (Y5 (cA:=⟨t.c,K,lms⟩) (hr.units)) (ZF YJ (pv 1) Zl) Zl (Z2 _)) (Zn (Z4 (i:=8) JV (by rfl) (by first|exact Or.inl rfl|exact Or.inr rfl) (XB (Zc (ZF Q4 (ZF YJ (pv 2) Zl) Zl) (Zc (ZF Q4 (ZF YJ (pv 3) Zl) Zl) (Zc (ZF Q4 (ZF YJ (ZF Vs (pv 2) Zl) Zl) Zl) (Zc (ZF Q4 (ZF YJ (ZF Vs (pv 3) Zl) Zl) Zl) Zh))))))
 (Zr (Zy (X6 (Zc (ZG [115,117,109] (by decide +kernel)) (Zc (Xh (ZbG (K:=K)) (by rfl) T.n_tuple boot_tuple (Zc (UN (UP (K:=K)) (pv 8) UL (UM (ZN (Yu (K:=K)) (by rfl) T.n_len boot_len (Zc (pv 0) Zh)))) Zh)) (Zc (Zfk ZcX (ZF YJ (pv 4) Zl)) (Zc (ZF YJ (ZF Vs (pv 4) Zl) Zl) Zh)))))))) ZO)
 (Zn (ZP (Ye (Y5 (cA:=⟨t.c,K,lms⟩) (hr.units)) (ZF YJ (pv 1) Zl) Zl (Z2 _)) (Zn (Z4 (i:=9) JV (by rfl) (by first|exact Or.inl rfl|exact Or.inr rfl) (ZF X7 Zl (ZF YJ (pv 3) Zl)))
 (Zr (Zy (X6 (Zc (ZG [116,117,114,110] (by decide +kernel)) (Zc (pv 5) (Zc (pv 9) (Zc (ZF YJ (pv 4) (pv 9)) Zh)))))))) ZO)
 (Zr (Zy (X6 (Zc (ZG [97,108,105,107,101] (by decide +kernel)) (Zc (ZF X7 Zl (ZF YJ (pv 4) Zl)) Zh)))))))))),[],?_⟩
 unfold Zjq;exact(Zo (show VS _ _ [] _ _ _ _ from(Z6 5 (Zk ZD (Zd 0) (Zk YM (Zd 2) (ZL Yw (Ze (Zd 0) Zg))))))
 (Zo (ZI (Yg (Zk Y6 (Zk YM (Zd 1) (Zf (d:=(.int 5)) (by rfl) (by rfl))) (Zf (d:=(.int 0)) (by rfl) (by rfl)))) (Zo (show VS _ _ [] _ _ _ _ from(Z6 6 (Zk ZD (VF.cl (Y4 (Ze (Zk YM (Zd 3) (Zf (d:=(.int 3)) (by rfl) (by rfl))) (Ze (Zk YM (Zd 3) (Zf (d:=(.int 9)) (by rfl) (by rfl))) Zg)))) (Zk YM (Zd 4) (Zf (d:=(.int 2)) (by rfl) (by rfl))))))
 (Zo (ZI (Yg (Zk Y6 (Zk YM (Zk Vx (Zd 4) (Zf (d:=(.int 2)) (by rfl) (by rfl))) (Zf (d:=(.int 3)) (by rfl) (by rfl))) (Zf (d:=(.int 0)) (by rfl) (by rfl)))) (Zw (Va (Ze (Zf (d:=(.str [103,97,112])) (by rfl) (by rfl)) (Ze (Zd 5) (Ze (Zd 6) (Ze (Zf (d:=.non) (by rfl) (by rfl)) Zg)))))) ZH)
 (Zw (Va (Ze (Zf (d:=(.str [103,97,112])) (by rfl) (by rfl)) (Ze (Zd 5) (Ze (Zd 6) (Ze (ZL ZiB (Ze (Zf (d:=(.int 8)) (by rfl) (by rfl)) (Ze (Zk XJ (Zd 6) (Zk YM (Zk Vx (Zd 4) (Zf (d:=(.int 6)) (by rfl) (by rfl))) (Zf (d:=(.int 5)) (by rfl) (by rfl)))) Zg))) Zg)))))))) ZH)
 (Zo (ZI (Yg (Zk Y6 (Zk YM (Zd 1) (Zf (d:=(.int 5)) (by rfl) (by rfl))) (Zf (d:=(.int 1)) (by rfl) (by rfl)))) (Zo (show VS _ _ [] _ _ _ _ from(Z6 7 (Zk XJ (Zf (d:=(.int 1)) (by rfl) (by rfl)) (Zk YM (Zd 3) (Zf (d:=(.int 6)) (by rfl) (by rfl))))))
 (Zw (Va (Ze (Zf (d:=(.str [110,101,118,101,114])) (by rfl) (by rfl)) (Ze (Vz Qt (Zf (d:=(.str [])) (by rfl) (by rfl)) (Ze (VF.cl (Xj (by rfl) (UT (Ze (Zd 7) Zg) UU) (YN 0) Xi (Zk ZD (Zd 1) (Zk YM (Zk Vx (Zd 2) (Zk ZD (VF.cl (Y4 (Ze (Zf (d:=(.int 1)) (by rfl) (by rfl)) (Ze (Zf (d:=(.int 3)) (by rfl) (by rfl)) (Ze (Zf (d:=(.int 7)) (by rfl) (by rfl)) (Ze (Zf (d:=(.int 11)) (by rfl) (by rfl)) (Ze (Zf (d:=(.int 17)) (by rfl) (by rfl)) (Ze (Zf (d:=(.int 23)) (by rfl) (by rfl)) Zg)))))))) (Zd 0))) (ZL Yw (Ze (Zd 1) Zg)))))) Zg)) Zg))))) ZH)
 (Zo (ZI (Yg (Zk Y6 (Zk YM (Zd 1) (Zf (d:=(.int 5)) (by rfl) (by rfl))) (Zf (d:=(.int 2)) (by rfl) (by rfl)))) (Zo (show VS _ _ [] _ _ _ _ from(Z6 8 (VF.cl (Y4 (Ze (Zk Je (Zk YM (Zd 2) (Zf (d:=(.int 7)) (by rfl) (by rfl))) (Zf (d:=(.int 3)) (by rfl) (by rfl))) (Ze (Zk Je (Zk YM (Zd 3) (Zf (d:=(.int 7)) (by rfl) (by rfl))) (Zf (d:=(.int 3)) (by rfl) (by rfl))) (Ze (Zk Je (Zk YM (Zk Vx (Zd 2) (Zf (d:=(.int 7)) (by rfl) (by rfl))) (Zf (d:=(.int 7)) (by rfl) (by rfl))) (Zf (d:=(.int 3)) (by rfl) (by rfl))) (Ze (Zk Je (Zk YM (Zk Vx (Zd 3) (Zf (d:=(.int 7)) (by rfl) (by rfl))) (Zf (d:=(.int 7)) (by rfl) (by rfl))) (Zf (d:=(.int 3)) (by rfl) (by rfl))) Zg))))))))
 (Zw (Va (Ze (Zf (d:=(.str [115,117,109])) (by rfl) (by rfl)) (Ze (ZaV (Ze (Qq (Or.inl rfl) (Zd 8) UV (UW (ZL Yw (Ze (Zd 0) Zg)))) Zg)) (Ze (ZcZ (Zk YM (Zd 4) (Zf (d:=(.int 9)) (by rfl) (by rfl)))) (Ze (Zk YM (Zk Vx (Zd 4) (Zf (d:=(.int 9)) (by rfl) (by rfl))) (Zf (d:=(.int 9)) (by rfl) (by rfl))) Zg))))))) ZH)
 (Zo (ZI (Yg (Zk Y6 (Zk YM (Zd 1) (Zf (d:=(.int 5)) (by rfl) (by rfl))) (Zf (d:=(.int 3)) (by rfl) (by rfl)))) (Zo (show VS _ _ [] _ _ _ _ from(Z6 9 (Zk XJ (Zf (d:=(.int 1)) (by rfl) (by rfl)) (Zk YM (Zd 3) (Zf (d:=(.int 6)) (by rfl) (by rfl))))))
 (Zw (Va (Ze (Zf (d:=(.str [116,117,114,110])) (by rfl) (by rfl)) (Ze (Zd 5) (Ze (Zd 9) (Ze (Zk YM (Zd 4) (Zd 9)) Zg))))))) ZH)
 (Zw (Va (Ze (Zf (d:=(.str [97,108,105,107,101])) (by rfl) (by rfl)) (Ze (Zk XJ (Zf (d:=(.int 1)) (by rfl) (by rfl)) (Zk YM (Zd 4) (Zf (d:=(.int 6)) (by rfl) (by rfl)))) Zg)))))))))
theorem Zly(T:Txt w K mg t):FnOk P w K mg base CX0 5 t.a_Q0 t.d_Q0 ["marks", "rule"] (spD ⟨t.c,K,lms⟩ 2 QQ):=by
 have GM_QQ:=(Zh6 (P:=P) (w:=w) (base:=base) T).mono (k:=3) (by decide);have GM_Q7:=(Zh2 (P:=P) (w:=w) (base:=base) T).mono (k:=3) (by decide);have GM_QS:=(Zh3 (P:=P) (w:=w) (base:=base) T).mono (k:=3) (by decide);have GM_Q5:=(Zh4 (P:=P) (w:=w) (base:=base) T).mono (k:=3) (by decide);have GM_Q1:=(Zh5 (P:=P) (w:=w) (base:=base) T).mono (k:=3) (by decide)
 refine YZ (φ:=Zkk) T.p_Q0.f Zld (by conv=>lhs;whnf) (by conv=>lhs;whnf) (λcdv A outer s H E hr => ?_) rfl rfl;refine⟨_,(Zn (ZP (Ye (Y5 (cA:=⟨t.c,K,lms⟩) (hr.units)) (ZB (ZC (K:=K)) (pv 1) Zl (λ_ _=>rfl)) (ZG [103,97,112] (by decide +kernel)) (Z2 _)) (Zn (ZP (Vh (Vg (ZB (ZC (K:=K)) (pv 1) Zl (λ_ _=>rfl)))) (Zr (Zy (XC T.mk_Gap (GM_Q7) hr (by rfl) T.g_Gap T.b1_Gap_init (.cons (show RelV .non Value.none from rfl) .nil) Zv (Zc (pv 0) (Zc (ZB (ZC (K:=K)) (pv 1) Zl (λ_ _=>rfl)) (Zc (ZB (ZC (K:=K)) (pv 1) Zl (λ_ _=>rfl)) Zh)))))) ZO)
 (Zr (Zy (XC T.mk_Gap (GM_Q7) hr (by rfl) T.g_Gap T.b_Q7 .nil Zv (Zc (pv 0) (Zc (ZB (ZC (K:=K)) (pv 1) Zl (λ_ _=>rfl)) (Zc (ZB (ZC (K:=K)) (pv 1) Zl (λ_ _=>rfl)) (Zc (ZB (ZC (K:=K)) (pv 1) Zl (λ_ _=>rfl)) Zh)))))))) ZO)
 (Zn (ZP (Ye (Y5 (cA:=⟨t.c,K,lms⟩) (hr.units)) (ZB (ZC (K:=K)) (pv 1) Zl (λ_ _=>rfl)) (ZG [110,101,118,101,114] (by decide +kernel)) (Z2 _)) (Zr (Zy (XC T.mk_Never (GM_QS) hr (by rfl) T.g_Never T.p_QS.b .nil Zv (Zc (pv 0) (Zc (ZB (ZC (K:=K)) (pv 1) Zl (λ_ _=>rfl)) Zh))))) ZO)
 (Zn (ZP (Ye (Y5 (cA:=⟨t.c,K,lms⟩) (hr.units)) (ZB (ZC (K:=K)) (pv 1) Zl (λ_ _=>rfl)) (ZG [115,117,109] (by decide +kernel)) (Z2 _)) (Zr (Zy (XC T.mk_Sum (GM_Q5) hr (by rfl) T.g_Sum T.p_Q5.b .nil Zv (Zc (pv 0) (Zc (ZB (ZC (K:=K)) (pv 1) Zl (λ_ _=>rfl)) (Zc (ZB (ZC (K:=K)) (pv 1) Zl (λ_ _=>rfl)) (Zc (ZB (ZC (K:=K)) (pv 1) Zl (λ_ _=>rfl)) Zh))))))) ZO)
 (Zn (ZP (Ye (Y5 (cA:=⟨t.c,K,lms⟩) (hr.units)) (ZB (ZC (K:=K)) (pv 1) Zl (λ_ _=>rfl)) (ZG [116,117,114,110] (by decide +kernel)) (Z2 _)) (Zr (Zy (XC T.mk_Turn (GM_Q1) hr (by rfl) T.g_Turn T.p_Q1.b .nil Zv (Zc (pv 0) (Zc (ZB (ZC (K:=K)) (pv 1) Zl (λ_ _=>rfl)) (Zc (ZB (ZC (K:=K)) (pv 1) Zl (λ_ _=>rfl)) (Zc (ZB (ZC (K:=K)) (pv 1) Zl (λ_ _=>rfl)) Zh))))))) ZO)
 (Zr (Zy (XC T.mk_Alike (GM_QQ) hr (by rfl) T.g_Alike T.p_QQ.b .nil Zv (Zc (pv 0) (Zc (ZB (ZC (K:=K)) (pv 1) Zl (λ_ _=>rfl)) Zh))))))))),[],?_⟩
 unfold Zkk;exact(Zo (ZI (Yg (Zk Y6 (Zk ZD (Zd 1) (Zf (d:=(.int 0)) (by rfl) (by rfl))) (Zf (d:=(.str [103,97,112])) (by rfl) (by rfl)))) (Zo (ZI (ZW (X9 (Zk ZD (Zd 1) (Zf (d:=(.int 3)) (by rfl) (by rfl))))) (Zw (XF (c:="Gap") [.non] (by rfl) (Ze (Zd 0) (Ze (Zk ZD (Zd 1) (Zf (d:=(.int 1)) (by rfl) (by rfl))) (Ze (Zk ZD (Zd 1) (Zf (d:=(.int 2)) (by rfl) (by rfl))) Zg))))) ZH)
 (Zw (XF (c:="Gap") [] (by rfl) (Ze (Zd 0) (Ze (Zk ZD (Zd 1) (Zf (d:=(.int 1)) (by rfl) (by rfl))) (Ze (Zk ZD (Zd 1) (Zf (d:=(.int 2)) (by rfl) (by rfl))) (Ze (Zk ZD (Zd 1) (Zf (d:=(.int 3)) (by rfl) (by rfl))) Zg))))))) ZH)
 (Zo (ZI (Yg (Zk Y6 (Zk ZD (Zd 1) (Zf (d:=(.int 0)) (by rfl) (by rfl))) (Zf (d:=(.str [110,101,118,101,114])) (by rfl) (by rfl)))) (Zw (XF (c:="Never") [] (by rfl) (Ze (Zd 0) (Ze (Zk ZD (Zd 1) (Zf (d:=(.int 1)) (by rfl) (by rfl))) Zg)))) ZH)
 (Zo (ZI (Yg (Zk Y6 (Zk ZD (Zd 1) (Zf (d:=(.int 0)) (by rfl) (by rfl))) (Zf (d:=(.str [115,117,109])) (by rfl) (by rfl)))) (Zw (XF (c:="Sum") [] (by rfl) (Ze (Zd 0) (Ze (Zk ZD (Zd 1) (Zf (d:=(.int 1)) (by rfl) (by rfl))) (Ze (Zk ZD (Zd 1) (Zf (d:=(.int 2)) (by rfl) (by rfl))) (Ze (Zk ZD (Zd 1) (Zf (d:=(.int 3)) (by rfl) (by rfl))) Zg)))))) ZH)
 (Zo (ZI (Yg (Zk Y6 (Zk ZD (Zd 1) (Zf (d:=(.int 0)) (by rfl) (by rfl))) (Zf (d:=(.str [116,117,114,110])) (by rfl) (by rfl)))) (Zw (XF (c:="Turn") [] (by rfl) (Ze (Zd 0) (Ze (Zk ZD (Zd 1) (Zf (d:=(.int 1)) (by rfl) (by rfl))) (Ze (Zk ZD (Zd 1) (Zf (d:=(.int 2)) (by rfl) (by rfl))) (Ze (Zk ZD (Zd 1) (Zf (d:=(.int 3)) (by rfl) (by rfl))) Zg)))))) ZH)
 (Zw (XF (c:="Alike") [] (by rfl) (Ze (Zd 0) (Ze (Zk ZD (Zd 1) (Zf (d:=(.int 1)) (by rfl) (by rfl))) Zg))))))))
theorem Zlz(T:Txt w K mg t):FnOk P w K mg base CX0 1 t.a_QC t.d_QC ["rule"] (spD ⟨t.c,K,lms⟩ 1 QR):=by
 refine YZ (φ:=Zkl) T.p_QC.f Zle (by conv=>lhs;whnf) (by conv=>lhs;whnf) (λcdv A outer s H E hr => ?_) rfl rfl;refine⟨_,(Zn (ZP (Ye (Y5 (cA:=⟨t.c,K,lms⟩) (hr.units)) (ZB (ZC (K:=K)) (pv 0) Zl (λ_ _=>rfl)) (ZG [103,97,112] (by decide +kernel)) (Z2 _)) (Zn (Z4 (i:=1) Zkq (by rfl) (by first|exact Or.inl rfl|exact Or.inr rfl) (ZG [97,110,121] (by decide +kernel)))
 (Zn (ZP (Vh (ZgY (ZB (ZC (K:=K)) (pv 0) Zl (λ_ _=>rfl)))) (Zr (Z4 (i:=1) Zkq (by rfl) (by first|exact Or.inl rfl|exact Or.inr rfl) (Xh XY (by rfl) T.n_str boot_str (Zc (ZB (ZC (K:=K)) (pv 0) Zl (λ_ _=>rfl)) Zh)))) ZO)
 (Zr (Zy (XB (Zc (ZG [103,97,112] (by decide +kernel)) (Zc (ZB (ZC (K:=K)) (pv 0) Zl (λ_ _=>rfl)) (Zc (Xh XY (by rfl) T.n_str boot_str (Zc (ZB (ZC (K:=K)) (pv 0) Zl (λ_ _=>rfl)) Zh)) (Zc (pv 1) Zh))))))))) ZO)
 (Zn (ZP (Ye (Y5 (cA:=⟨t.c,K,lms⟩) (hr.units)) (ZB (ZC (K:=K)) (pv 0) Zl (λ_ _=>rfl)) (ZG [115,117,109] (by decide +kernel)) (Z2 _)) (Zr (Zy (ZF (Jk (K:=K)) (XB (Zc (ZG [115,117,109] (by decide +kernel)) (Zc (Xh XY (by rfl) T.n_str boot_str (Zc (ZB (ZC (K:=K)) (pv 0) Zl (λ_ _=>rfl)) Zh)) (Zc (Xh XY (by rfl) T.n_str boot_str (Zc (ZB (ZC (K:=K)) (pv 0) Zl (λ_ _=>rfl)) Zh)) Zh)))) (X0 (by rfl) (CompSd.mk1 (tn:=["worth"]) (cn:=[]) (js:=[]) (osc:=defScope QU) (oN:=["rule", "most"]) (by rfl) (by rfl) (by rfl) (by decide +kernel)) (XE (K:=K) (ZB (ZC (K:=K)) (pv 0) Zl (λ_ _=>rfl))) (λC s₂ H₂ fp=>YI (i:=0) nd1) (λC s₂ H₂ fp=>Xy) (λC s₂ H₂ fp=>(Xh XY (by rfl) T.n_str boot_str (Zc (pv 0) Zh))))))) ZO)
 (Zr (Zy (ZF (Jk (K:=K)) (XB (Zc (ZB (ZC (K:=K)) (pv 0) Zl (λ_ _=>rfl)) Zh)) (X0 (by rfl) (CompSd.mk1 (tn:=["part"]) (cn:=[]) (js:=[]) (osc:=defScope QU) (oN:=["rule", "most"]) (by rfl) (by rfl) (by rfl) (by decide +kernel)) (XE (K:=K) (UN (UP (K:=K)) (pv 0) (UM Zl) UL)) (λC s₂ H₂ fp=>YI (i:=0) Zmx) (λC s₂ H₂ fp=>Xy) (λC s₂ H₂ fp=>(Xh XY (by rfl) T.n_str boot_str (Zc (pv 0) Zh))))))))),[],?_⟩
 unfold Zkl;exact(Zo (ZI (Yg (Zk Y6 (Zk ZD (Zd 0) (Zf (d:=(.int 0)) (by rfl) (by rfl))) (Zf (d:=(.str [103,97,112])) (by rfl) (by rfl)))) (Zo (show VS _ _ [] _ _ _ _ from(Z6 1 (Zf (d:=(.str [97,110,121])) (by rfl) (by rfl))))
 (Zo (ZI (ZW (Zhb (Zk ZD (Zd 0) (Zf (d:=(.int 3)) (by rfl) (by rfl))))) (show VS _ _ [] _ _ _ _ from(Z6 1 (ZL Y7 (Ze (Zk ZD (Zd 0) (Zf (d:=(.int 3)) (by rfl) (by rfl))) Zg)))) ZH)
 (Zw (VF.cl (Y4 (Ze (Zf (d:=(.str [103,97,112])) (by rfl) (by rfl)) (Ze (Zk ZD (Zd 0) (Zf (d:=(.int 1)) (by rfl) (by rfl))) (Ze (ZL Y7 (Ze (Zk ZD (Zd 0) (Zf (d:=(.int 2)) (by rfl) (by rfl))) Zg)) (Ze (Zd 1) Zg))))))))) ZH)
 (Zo (ZI (Yg (Zk Y6 (Zk ZD (Zd 0) (Zf (d:=(.int 0)) (by rfl) (by rfl))) (Zf (d:=(.str [115,117,109])) (by rfl) (by rfl)))) (Zw (VF.cl (U1 (VF.cl (Y4 (Ze (Zf (d:=(.str [115,117,109])) (by rfl) (by rfl)) (Ze (ZL Y7 (Ze (Zk ZD (Zd 0) (Zf (d:=(.int 2)) (by rfl) (by rfl))) Zg)) (Ze (ZL Y7 (Ze (Zk ZD (Zd 0) (Zf (d:=(.int 3)) (by rfl) (by rfl))) Zg)) Zg))))) (VF.cl (Xj (by rfl) (Xq (Zk ZD (Zd 0) (Zf (d:=(.int 1)) (by rfl) (by rfl)))) (YN 0) Xi (ZL Y7 (Ze (Zd 0) Zg))))))) ZH)
 (Zw (VF.cl (U1 (VF.cl (Y4 (Ze (Zk ZD (Zd 0) (Zf (d:=(.int 0)) (by rfl) (by rfl))) Zg))) (VF.cl (Xj (by rfl) (Xq (Qq (Or.inl rfl) (Zd 0) (UW (Zf (d:=(.int 1)) (by rfl) (by rfl))) UV)) (YN 0) Xi (ZL Y7 (Ze (Zd 0) Zg)))))))))
theorem ZlA(T:Txt w K mg t):FnOk P w K mg base CX0 1 t.a_QF t.d_QF ["rule"] (spD ⟨t.c,K,lms⟩ 1 Zjs):=by
 refine YZ (φ:=Zkm) T.p_QF.f Zlf (by conv=>lhs;whnf) (by conv=>lhs;whnf) (λcdv A outer s H E hr => ?_) rfl rfl;refine⟨_,(Zn (ZP (YB (ZN (Xk (K:=K)) (by rfl) T.n_isinstance boot_isinstance (Zc (pv 0) (Zc (XU (v:=.ref (t.c "Gap")) (by rfl) T.g_Gap (by rfl)) Zh)))) (Zr (Zy (X6 (Zc (ZG [103,97,112] (by decide +kernel)) (Zc (YC (K:=K) (pv 0)) (Zc (YC (K:=K) (pv 0)) (Zc (YC (K:=K) (pv 0)) Zh))))))) ZO)
 (Zn (ZP (YB (ZN (Xk (K:=K)) (by rfl) T.n_isinstance boot_isinstance (Zc (pv 0) (Zc (XU (v:=.ref (t.c "Never")) (by rfl) T.g_Never (by rfl)) Zh)))) (Zr (Zy (X6 (Zc (ZG [110,101,118,101,114] (by decide +kernel)) (Zc (YC (K:=K) (pv 0)) Zh))))) ZO)
 (Zn (ZP (YB (ZN (Xk (K:=K)) (by rfl) T.n_isinstance boot_isinstance (Zc (pv 0) (Zc (XU (v:=.ref (t.c "Sum")) (by rfl) T.g_Sum (by rfl)) Zh)))) (Zr (Zy (X6 (Zc (ZG [115,117,109] (by decide +kernel)) (Zc (YC (K:=K) (pv 0)) (Zc (YC (K:=K) (pv 0)) (Zc (YC (K:=K) (pv 0)) Zh))))))) ZO)
 (Zn (ZP (YB (ZN (Xk (K:=K)) (by rfl) T.n_isinstance boot_isinstance (Zc (pv 0) (Zc (XU (v:=.ref (t.c "Turn")) (by rfl) T.g_Turn (by rfl)) Zh)))) (Zr (Zy (X6 (Zc (ZG [116,117,114,110] (by decide +kernel)) (Zc (YC (K:=K) (pv 0)) (Zc (YC (K:=K) (pv 0)) (Zc (YC (K:=K) (pv 0)) Zh))))))) ZO)
 (Zn (ZP (YB (ZN (Xk (K:=K)) (by rfl) T.n_isinstance boot_isinstance (Zc (pv 0) (Zc (XU (v:=.ref (t.c "Alike")) (by rfl) T.g_Alike (by rfl)) Zh)))) (Zr (Zy (X6 (Zc (ZG [97,108,105,107,101] (by decide +kernel)) (Zc (YC (K:=K) (pv 0)) Zh))))) ZO)
 (Zr (Zy (X6 (Zc (ZG [111,116,104,101,114] (by decide +kernel)) Zh))))))))),[],?_⟩
 unfold Zkm;exact(Zo (ZI (ZW (YO (λ_ h=>h) T.isi_Gap (Zd 0))) (Zw (Va (Ze (Zf (d:=(.str [103,97,112])) (by rfl) (by rfl)) (Ze (Z3 T.fl_mark (Zd 0)) (Ze (Z3 T.fl_least (Zd 0)) (Ze (Z3 T.fl_most (Zd 0)) Zg)))))) ZH)
 (Zo (ZI (ZW (YO (λ_ h=>h) T.isi_Never (Zd 0))) (Zw (Va (Ze (Zf (d:=(.str [110,101,118,101,114])) (by rfl) (by rfl)) (Ze (Z3 T.fl_word (Zd 0)) Zg)))) ZH)
 (Zo (ZI (ZW (YO (λ_ h=>h) T.isi_Sum (Zd 0))) (Zw (Va (Ze (Zf (d:=(.str [115,117,109])) (by rfl) (by rfl)) (Ze (Z3 T.fl_worths (Zd 0)) (Ze (Z3 T.fl_low (Zd 0)) (Ze (Z3 T.fl_high (Zd 0)) Zg)))))) ZH)
 (Zo (ZI (ZW (YO (λ_ h=>h) T.isi_Turn (Zd 0))) (Zw (Va (Ze (Zf (d:=(.str [116,117,114,110])) (by rfl) (by rfl)) (Ze (Z3 T.fl_mark (Zd 0)) (Ze (Z3 T.fl_every (Zd 0)) (Ze (Z3 T.fl_at (Zd 0)) Zg)))))) ZH)
 (Zo (ZI (ZW (YO (λ_ h=>h) T.isi_Alike (Zd 0))) (Zw (Va (Ze (Zf (d:=(.str [97,108,105,107,101])) (by rfl) (by rfl)) (Ze (Z3 T.fl_most (Zd 0)) Zg)))) ZH)
 (Zw (Va (Ze (Zf (d:=(.str [111,116,104,101,114])) (by rfl) (by rfl)) Zg))))))))
theorem ZaI(T:Txt w K mg t):∀n:Nat,FnOk P w K mg base CX0 (0+n) t.a_QY t.d_QY ["found", "due"] (spD ⟨t.c,K,lms⟩ 2 (V8 n))
 |0=>⟨λvs H Q E ⟨_,_,_,_,_,_,z,_⟩=>(nomatch z),λA outer s H args us vs Q E _ _ _ _ ⟨_,_,_,_,_,_,z,_⟩=>(nomatch z)⟩
 |n+1=>by
  have G_QY:=ZaI T n;refine YZ (φ:=Zkn (V8 n)) T.p_QY.f Zlg (by conv=>lhs;whnf) (by conv=>lhs;whnf) (λcdv A outer s H E hr => ?_) rfl rfl
  refine⟨_,(Zn (ZP (YB (ZN (Xk (K:=K)) (by rfl) T.n_isinstance boot_isinstance (Zc (pv 1) (Zc (Uv (v:=.ty "tuple") (by rfl) T.n_tuple boot_tuple rfl) Zh)))) (Zn (ZP (PW.pt (X4 (XH (YB (ZN (Xk (K:=K)) (by rfl) T.n_isinstance boot_isinstance (Zc (pv 0) (Zc (Uv (v:=.ty "tuple") (by rfl) T.n_tuple boot_tuple rfl) Zh))))) (Vr (Ye (Vv (cA:=⟨t.c,K,lms⟩) (hr.units)) (ZN (Yu (K:=K)) (by rfl) T.n_len boot_len (Zc (pv 0) Zh)) (ZN (Yu (K:=K)) (by rfl) T.n_len boot_len (Zc (pv 1) Zh)) (Z2 _))))) (Zr (Zy VR)) ZO)
   (Zn ((Qj PassesOwn.never (by rfl) (UJ (by rfl) T.n_range (Zc (ZN (Yu (K:=K)) (by rfl) T.n_len boot_len (Zc (pv 1) Zh)) Zh)) (YI (i:=2) Zmy) (Zr (ZP (XH (YB (ZA (G_QY) hr (by rfl) T.p_QY.g T.p_QY.k T.p_QY.b .nil Zv (Zc (ZB (ZC (K:=K)) (pv 0) (pv 2) (λ_ _=>rfl)) (Zc (ZB (ZC (K:=K)) (pv 1) (pv 2) (λ_ _=>rfl)) Zh))))) (Zr (Zy VR)) ZO))))
   (Zr (Zy VR)))) ZO)
   (Zn (ZP (Vh (Vg (pv 1))) (Zr (Zy (Zgh (Vg (pv 0))))) ZO)
   (Zn (ZP (YB (ZN (Xk (K:=K)) (by rfl) T.n_isinstance boot_isinstance (Zc (pv 1) (Zc (Uv (v:=.ty "str") (by rfl) T.n_str boot_str rfl) Zh)))) (Zr (Zy (Q2 (ZN (Xk (K:=K)) (by rfl) T.n_isinstance boot_isinstance (Zc (pv 0) (Zc (Uv (v:=.ty "str") (by rfl) T.n_str boot_str rfl) Zh))) (Q1 (Vi (Y5 (cA:=⟨t.c,K,lms⟩) (hr.units)) (pv 0) (pv 1) (Z2 _)))))) ZO)
   (Zr (Zy (Q2 (ZN (Xk (K:=K)) (by rfl) T.n_isinstance boot_isinstance (Zc (pv 0) (Zc (Uv (v:=.ty "int") (by rfl) T.n_int boot_int rfl) Zh))) (Q2 (Zgj (ZN (Xk (K:=K)) (by rfl) T.n_isinstance boot_isinstance (Zc (pv 0) (Zc (Uv (v:=.ty "bool") (by rfl) T.n_bool boot_bool rfl) Zh)))) (Q1 (Vi (Y5 (cA:=⟨t.c,K,lms⟩) (hr.units)) (pv 0) (pv 1) (Z2 _)))))))))),[],?_⟩
  unfold Zkn
  exact(Zo (ZI (ZW (YO (λ_ h=>h) T.isi_tuple (Zd 1))) (Zo (ZI (X8 (XM (ZW (YO (λ_ h=>h) T.isi_tuple (Zd 0)))) (Yg (Zk Vw (ZL Yw (Ze (Zd 0) Zg)) (ZL Yw (Ze (Zd 1) Zg))))) (Zw (Zf (d:=(.bl false)) (by rfl) (by rfl))) ZH)
   (Zo (Qp (UT (Ze (ZL Yw (Ze (Zd 1) Zg)) Zg) UU) (YN 2) (ZI (XM (ZW (ZJ [] (by rfl) (Ze (Zk ZD (Zd 0) (Zd 2)) (Ze (Zk ZD (Zd 1) (Zd 2)) Zg))))) (Zw (Zf (d:=(.bl false)) (by rfl) (by rfl))) ZH))
   (Zw (Zf (d:=(.bl true)) (by rfl) (by rfl))))) ZH)
   (Zo (ZI (ZW (X9 (Zd 1))) (Zw (X9 (Zd 0))) ZH)
   (Zo (ZI (ZW (YO (λ_ h=>h) T.isi_str (Zd 1))) (Zw (Jf (YO (λ_ h=>h) T.isi_str (Zd 0)) (Zk Y6 (Zd 0) (Zd 1)))) ZH)
   (Zw (Jf (YO (λ_ h=>h) T.isi_int (Zd 0)) (Jf (Zgs (YO (λ_ h=>h) T.isi_bool (Zd 0))) (Zk Y6 (Zd 0) (Zd 1))))))))
theorem ZlB(T:Txt w K mg t):FnOk P w K mg base CX0 8 t.a_QY t.d_QY ["found", "due"] (spD ⟨t.c,K,lms⟩ 2 m_QY):=ZaI T 8
theorem ZlC(T:Txt w K mg t):FnOk P w K mg base CX0 2 t.a_QP t.d_QP ["script", "marks"] (spD ⟨t.c,K,lms⟩ 2 Zju):=by
 have G_QE:=(Zif (P:=P) (w:=w) (base:=base) T).mono (k:=1) (by decide);have G_QU:=(Zlx (P:=P) (w:=w) (base:=base) T).mono (k:=1) (by decide);refine YZ (φ:=Zjt) T.p_QP.f Zlh (by conv=>lhs;whnf) (by conv=>lhs;whnf) (λcdv A outer s H E hr => ?_) rfl rfl;refine⟨_,(Zn (Z4 (i:=2) Zkr (by rfl) (by first|exact Or.inl rfl|exact Or.inr rfl) (XB Zh))
 (Zn ((Qj PassesOwn.never (by rfl) (UJ (by rfl) T.n_range (Zc (ZF YJ (ZA (G_QE) hr (by rfl) T.p_QE.g T.p_QE.k T.p_QE.b .nil Zv (Zc (pv 0) (Zc Zl Zh))) Zl) Zh)) (YI (i:=3) Zkr) (Zn (ZcE (i:=4) Zkr (by rfl) (by rfl) (by rfl) (CompSd.mk1 (tn:=["step"]) (cn:=["script", "k"]) (js:=[0,3]) (osc:=defScope JT) (oN:=["script", "marks", "rules", "k", "cells"]) (by rfl) (by rfl) (by rfl) (by decide +kernel)) (UJ (by rfl) T.n_range (Zc Zl Zh)) (λC s₂ H₂ fp=>YI (i:=0) Zmz) (λC s₂ H₂ fp=>Xy) (λC s₂ H₂ fp=>(ZA (G_QE) hr (by rfl) T.p_QE.g T.p_QE.k T.p_QE.b .nil Zv (Zc (pv 1) (Zc (ZF X7 (ZF X7 Zl (ZF Zel Zl (pv 2))) (pv 0)) Zh)))))
 (Zr (YH (XI (K:=K) PySem.F.plainAttrs_list PySem.F.slot_list_append PySem.F.type_list_append Za1 (pv 2) (Zc (ZA (G_QU) hr (by rfl) T.p_QU.g T.p_QU.k T.p_QU.b .nil Zv (Zc (pv 1) (Zc (ZF X7 (ZF Vs (ZB (ZC (K:=K)) (pv 4) Zl (λ_ _=>rfl)) Zl) (ZF Vs (ZB (ZC (K:=K)) (pv 4) Zl (λ_ _=>rfl)) Zl)) (Zc (ZB (ZC (K:=K)) (pv 4) Zl (λ_ _=>rfl)) (Zc (ZB (ZC (K:=K)) (pv 4) Zl (λ_ _=>rfl)) (Zc (ZB (ZC (K:=K)) (pv 4) Zl (λ_ _=>rfl)) Zh)))))) Zh)))))))
 (Zr (Zy (pv 2))))),[],?_⟩
 unfold Zjt;exact(Zo (show VS _ _ [2] _ _ _ _ from(Jg 2 (Y4 Zg)))
 (Zo (Qp (UT (Ze (Zk YM (ZJ [] (by rfl) (Ze (Zd 0) (Ze (Zf (d:=(.int 1)) (by rfl) (by rfl)) Zg))) (Zf (d:=(.int 7)) (by rfl) (by rfl))) Zg) UU) (YN 3) (Zo (show VS _ _ [2] _ _ _ _ from(Z6 4 (VF.cl (Xj (by rfl) (UT (Ze (Zf (d:=(.int 3)) (by rfl) (by rfl)) Zg) UU) (YN 0) Xi (ZJ [] (by rfl) (Ze (Zd 1) (Ze (Zk XJ (Zk XJ (Zf (d:=(.int 2)) (by rfl) (by rfl)) (Zk Zgq (Zf (d:=(.int 3)) (by rfl) (by rfl)) (Zd 2))) (Zd 0)) Zg)))))))
 (Zd6 2 (by rfl) (ZJ [] (by rfl) (Ze (Zd 1) (Ze (Zk XJ (Zk Vx (Zk ZD (Zd 4) (Zf (d:=(.int 1)) (by rfl) (by rfl))) (Zf (d:=(.int 60)) (by rfl) (by rfl))) (Zk Vx (Zk ZD (Zd 4) (Zf (d:=(.int 2)) (by rfl) (by rfl))) (Zf (d:=(.int 90)) (by rfl) (by rfl)))) (Ze (Zk ZD (Zd 4) (Zf (d:=(.int 0)) (by rfl) (by rfl))) (Ze (Zk ZD (Zd 4) (Zf (d:=(.int 1)) (by rfl) (by rfl))) (Ze (Zk ZD (Zd 4) (Zf (d:=(.int 2)) (by rfl) (by rfl))) Zg)))))))))
 (VS.frz (ow1:=[]) 2 (Zw (Zd 2)))))
theorem ZlD(T:Txt w K mg t):FnOk P w K mg base CX0 3 t.a_QD t.d_QD ["rule"] (spD ⟨t.c,K,lms⟩ 1 QS):=by
 have G_Q3:=(ZgU (P:=P) (w:=w) (base:=base) T).mono (k:=2) (by decide);refine YZ (φ:=Zko) T.p_QD.f Zli (by conv=>lhs;whnf) (by conv=>lhs;whnf) (λcdv A outer s H E hr => ?_) rfl rfl;refine⟨_,(Zn (Z4 (i:=1) ZjR (by rfl) (by first|exact Or.inl rfl|exact Or.inr rfl) Zl)
 (Zn (Zev ⟨rfl,rfl⟩ (by rfl) T.g_BadRule (λE=>(Zdk (Zdj (G_Q3) hr (by rfl) T.p_Q3.g T.p_Q3.k T.p_Q3.b .nil (λ_ _ z=>z) (Zc (pv 0) Zh)))) (λea=>(Zr (Z4 (i:=1) ZjR (by rfl) (by first|exact Or.inl rfl|exact Or.inr rfl) Zl))))
 (Zr (Zy (Vi (Y5 (cA:=⟨t.c,K,lms⟩) (hr.units)) (pv 1) Zl (Z2 _)))))),[],?_⟩
 unfold Zko;exact(Zo (show VS _ _ [] _ _ _ _ from(Z6 1 (Zf (d:=(.int 0)) (by rfl) (by rfl))))
 (Zo (Zew ["BadRule"] T.xm_BadRule (λE=>(Xx (Ui [] (by rfl) (Ze (Zd 0) Zg)))) (λE=>(Zdl (ZaX [] (by rfl) (Ze (Zd 0) Zg)))) (show VS _ _ [] _ _ _ _ from(Z6 1 (Zf (d:=(.int 1)) (by rfl) (by rfl)))))
 (Zw (Zk Y6 (Zd 1) (Zf (d:=(.int 1)) (by rfl) (by rfl))))))
theorem ZlE(T:Txt w K mg t):FnOk P w K mg base CX0 4 t.a_QA t.d_QA ["rule"] (spD ⟨t.c,K,lms⟩ 1 Zjv):=by
 have G_QL:=(Zie (P:=P) (w:=w) (base:=base) T).mono (k:=3) (by decide);refine YZ (φ:=Zkp) T.p_QA.f Zlj (by conv=>lhs;whnf) (by conv=>lhs;whnf) (λcdv A outer s H E hr => ?_) rfl rfl;refine⟨_,(Zn (Z4 (i:=1) ZjR (by rfl) (by first|exact Or.inl rfl|exact Or.inr rfl) Zl)
 (Zn (Zev ⟨rfl,rfl⟩ (by rfl) T.g_BadRule (λE=>(Zdk (Zdj (G_QL) hr (by rfl) T.p_QL.g T.p_QL.k T.p_QL.b .nil (λ_ _ z=>z) (Zc (pv 0) Zh)))) (λea=>(Zr (Z4 (i:=1) ZjR (by rfl) (by first|exact Or.inl rfl|exact Or.inr rfl) Zl))))
 (Zr (Zy (Vi (Y5 (cA:=⟨t.c,K,lms⟩) (hr.units)) (pv 1) Zl (Z2 _)))))),[],?_⟩
 unfold Zkp;exact(Zo (show VS _ _ [] _ _ _ _ from(Z6 1 (Zf (d:=(.int 0)) (by rfl) (by rfl))))
 (Zo (Zew ["BadRule"] T.xm_BadRule (λE=>(Xx (Ui [] (by rfl) (Ze (Zd 0) Zg)))) (λE=>(Zdl (ZaX [] (by rfl) (Ze (Zd 0) Zg)))) (show VS _ _ [] _ _ _ _ from(Z6 1 (Zf (d:=(.int 1)) (by rfl) (by rfl)))))
 (Zw (Zk Y6 (Zd 1) (Zf (d:=(.int 1)) (by rfl) (by rfl))))))
theorem ZlF(T:Txt w K mg t):FnOk P w K mg base CX0 9 t.a_Qc t.d_Qc ["script"] (spD ⟨t.c,K,lms⟩ 1 Zjx):=by
 have GM_Q4:=(Zh7 (P:=P) (w:=w) (base:=base) T).mono (k:=7) (by decide);have GM_QX:=(Qc (P:=P) (w:=w) (base:=base) T).mono (k:=7) (by decide);have G_QB:=(Zh8 (P:=P) (w:=w) (base:=base) T).mono (k:=8) (by decide);have G_QE:=(Zif (P:=P) (w:=w) (base:=base) T).mono (k:=8) (by decide);have G_Q0:=(Zly (P:=P) (w:=w) (base:=base) T).mono (k:=8) (by decide)
 have G_QJ:=(Zlw (P:=P) (w:=w) (base:=base) T).mono (k:=8) (by decide);have G_QA:=(ZlE (P:=P) (w:=w) (base:=base) T).mono (k:=8) (by decide);have G_QD:=(ZlD (P:=P) (w:=w) (base:=base) T).mono (k:=8) (by decide);have G_QC:=(Zlz (P:=P) (w:=w) (base:=base) T).mono (k:=8) (by decide);have G_QP:=(ZlC (P:=P) (w:=w) (base:=base) T).mono (k:=8) (by decide)
 have G_QY:=(ZlB (P:=P) (w:=w) (base:=base) T).mono (k:=8) (by decide);have G_QF:=(ZlA (P:=P) (w:=w) (base:=base) T).mono (k:=8) (by decide);have G_QK:=(Zlu (P:=P) (w:=w) (base:=base) T).mono (k:=8) (by decide);have G_Q3:=(ZgU (P:=P) (w:=w) (base:=base) T).mono (k:=8) (by decide);have G_QL:=(Zie (P:=P) (w:=w) (base:=base) T).mono (k:=8) (by decide)
 refine YZ (φ:=Zjw) T.p_Qc.f Zlk (by conv=>lhs;whnf) (by conv=>lhs;whnf) (λcdv A outer s H E hr => ?_) rfl rfl;refine⟨_,(Zn (Z4 (i:=1) VP (by rfl) (by first|exact Or.inl rfl|exact Or.inr rfl) (ZA (G_QJ) hr (by rfl) T.p_QJ.g T.p_QJ.k T.p_QJ.b .nil Zv (Zc (ZA (G_QE) hr (by rfl) T.p_QE.g T.p_QE.k T.p_QE.b .nil Zv (Zc (pv 0) (Zc Zl Zh))) Zh)))
 (Zn (Z4 (i:=2) VP (by rfl) (by first|exact Or.inl rfl|exact Or.inr rfl) (ZA (G_QP) hr (by rfl) T.p_QP.g T.p_QP.k T.p_QP.b .nil Zv (Zc (pv 0) (Zc (pv 1) Zh))))
 (Zn (ZcE (i:=3) VP (by rfl) (by rfl) (by rfl) (CompSd.mk1 (tn:=["rule"]) (cn:=["marks"]) (js:=[1]) (osc:=defScope QV) (oN:=["script", "marks", "rules", "made", "every", "rows", "k", "page", "found", "one"]) (by rfl) (by rfl) (by rfl) (by decide +kernel)) (XE (K:=K) (pv 2)) (λC s₂ H₂ fp=>YI (i:=0) nd3) (λC s₂ H₂ fp=>Xy) (λC s₂ H₂ fp=>(ZA (G_Q0) hr (by rfl) T.p_Q0.g T.p_Q0.k T.p_Q0.b .nil Zv (Zc (pv 1) (Zc (pv 0) Zh)))))
 (Zn (Z4 (i:=4) VP (by rfl) (by first|exact Or.inl rfl|exact Or.inr rfl) (XC T.mk_All (GM_Q4) hr (by rfl) T.g_All T.p_Q4.b .nil Zv (Zc (pv 1) (Zc (pv 3) Zh))))
 (Zn (ZcE (i:=5) VP (by rfl) (by rfl) (by rfl) (CompSd.mk1 (tn:=["rule"]) (cn:=[]) (js:=[]) (osc:=defScope QV) (oN:=["script", "marks", "rules", "made", "every", "rows", "k", "page", "found", "one"]) (by rfl) (by rfl) (by rfl) (by decide +kernel)) (XE (K:=K) (pv 2)) (λC s₂ H₂ fp=>YI (i:=0) nd2) (λC s₂ H₂ fp=>Xy) (λC s₂ H₂ fp=>(XI (K:=K) PySem.F.plainAttrs_str PySem.F.slot_str_join PySem.F.type_str_join (Qr (K:=K)) (ZG [32] (by decide +kernel)) (Zc (ZA (G_QC) hr (by rfl) T.p_QC.g T.p_QC.k T.p_QC.b .nil Zv (Zc (pv 0) Zh)) Zh))))
 (Zn ((Qj PassesOwn.never (by rfl) (UJ (by rfl) T.n_range (Zc (ZN (Yu (K:=K)) (by rfl) T.n_len boot_len (Zc (pv 2) Zh)) Zh)) (YI (i:=6) VP) (Zr (ZP (XH (YB (ZA (G_QY) hr (by rfl) T.p_QY.g T.p_QY.k T.p_QY.b .nil Zv (Zc (ZA (G_Q3) hr (by rfl) T.p_Q3.g T.p_Q3.k T.p_Q3.b .nil Zd8 (Zc (ZB (ZC (K:=K)) (pv 3) (pv 6) (λ_ _=>rfl)) Zh)) (Zc (ZB (ZC (K:=K)) (pv 5) (pv 6) (λ_ _=>rfl)) Zh))))) (Zr (Zy VR)) ZO))))
 (Zn (Z4 (i:=7) VP (by rfl) (by first|exact Or.inl rfl|exact Or.inr rfl) (XI (K:=K) PySem.F.plainAttrs_str PySem.F.slot_str_join PySem.F.type_str_join (Qr (K:=K)) (ZG [10] (by decide +kernel)) (Zc (ZF (Jk (K:=K)) (XB (Zc (ZF X7 (ZG [109,97,114,107,115,32] (by decide +kernel)) (pv 1)) Zh)) (pv 5)) Zh)))
 (Zn (ZP (XH (YB (ZA (G_QY) hr (by rfl) T.p_QY.g T.p_QY.k T.p_QY.b .nil Zv (Zc (ZA (G_QL) hr (by rfl) T.p_QL.g T.p_QL.k T.p_QL.b .nil Zd8 (Zc (pv 4) Zh)) (Zc (pv 7) Zh))))) (Zr (Zy VR)) ZO)
 (Zn (Z4 (i:=8) VP (by rfl) (by first|exact Or.inl rfl|exact Or.inr rfl) (ZA (G_QK) hr (by rfl) T.p_QK.g T.p_QK.k T.p_QK.b .nil Zv (Zc (pv 7) Zh)))
 (Zn (ZP (PW.pt (X4 (XH (YB (ZN (Xk (K:=K)) (by rfl) T.n_isinstance boot_isinstance (Zc (pv 8) (Zc (XU (v:=.ref (t.c "All")) (by rfl) T.g_All (by rfl)) Zh))))) (X4 (XH (YB (ZA (G_QY) hr (by rfl) T.p_QY.g T.p_QY.k T.p_QY.b .nil Zv (Zc (YC (K:=K) (pv 8)) (Zc (pv 1) Zh))))) (Vr (Ye (Vv (cA:=⟨t.c,K,lms⟩) (hr.units)) (ZN (Yu (K:=K)) (by rfl) T.n_len boot_len (Zc (Za6 (cA:=⟨t.c,K,lms⟩) (tab:=Vo) (m:="rules_told") ⟨⟨t.a_QB,t.d_QB,["self"],T.cl_All,T.me_All_rules_told,G_QB,T.p_QB.b⟩,trivial⟩ hr (pv 8)) Zh)) (ZN (Yu (K:=K)) (by rfl) T.n_len boot_len (Zc (pv 2) Zh)) (Z2 _)))))) (Zr (Zy VR)) ZO)
 (Zn ((Qj PassesOwn.never (by rfl) (UJ (by rfl) T.n_range (Zc (ZN (Yu (K:=K)) (by rfl) T.n_len boot_len (Zc (pv 2) Zh)) Zh)) (YI (i:=6) VP) (Zn (Z4 (i:=9) VP (by rfl) (by first|exact Or.inl rfl|exact Or.inr rfl) (ZB (ZC (K:=K)) (Za6 (cA:=⟨t.c,K,lms⟩) (tab:=Vo) (m:="rules_told") ⟨⟨t.a_QB,t.d_QB,["self"],T.cl_All,T.me_All_rules_told,G_QB,T.p_QB.b⟩,trivial⟩ hr (pv 8)) (pv 6) (λ_ _=>rfl)))
 (Zr (ZP (PW.pt (X4 (XH (YB (ZA (G_QY) hr (by rfl) T.p_QY.g T.p_QY.k T.p_QY.b .nil Zv (Zc (ZA (G_QF) hr (by rfl) T.p_QF.g T.p_QF.k T.p_QF.b .nil Zv (Zc (pv 9) Zh)) (Zc (ZB (ZC (K:=K)) (pv 2) (pv 6) (λ_ _=>rfl)) Zh))))) (Vr (Ye (Vv (cA:=⟨t.c,K,lms⟩) (hr.units)) (YC (K:=K) (pv 9)) (pv 1) (Z2 _))))) (Zr (Zy VR)) ZO)))))
 (Zn (ZP (PW.pt (X4 (XH (YB (ZA (G_QY) hr (by rfl) T.p_QY.g T.p_QY.k T.p_QY.b .nil Zv (Zc (ZA (G_QL) hr (by rfl) T.p_QL.g T.p_QL.k T.p_QL.b .nil Zd8 (Zc (pv 8) Zh)) (Zc (pv 7) Zh))))) (X4 (XH (YB (ZA (G_QD) hr (by rfl) T.p_QD.g T.p_QD.k T.p_QD.b .nil Zv (Zc (XC T.mk_Rule (GM_QX) hr (by rfl) T.g_Rule T.p_QX.b .nil Zv (Zc (pv 1) Zh)) Zh)))) (Vr (XH (YB (ZA (G_QD) hr (by rfl) T.p_QD.g T.p_QD.k T.p_QD.b .nil Zv (Zc (pv 4) Zh)))))))) (Zr (Zy VR)) ZO)
 (Zn (Z4 (i:=3) VP (by rfl) (by first|exact Or.inl rfl|exact Or.inr rfl) (UN (UP (K:=K)) (pv 3) UL (UM Zl)))
 (Zn (YH (XI (K:=K) PySem.F.plainAttrs_list PySem.F.slot_list_insert PySem.F.type_list_insert Zfa (pv 3) (Zc (ZF YJ (ZF Vs (ZA (G_QE) hr (by rfl) T.p_QE.g T.p_QE.k T.p_QE.b .nil Zv (Zc (pv 0) (Zc Zl Zh))) Zl) (ZF X7 (ZN (Yu (K:=K)) (by rfl) T.n_len boot_len (Zc (pv 3) Zh)) Zl)) (Zc (XC T.mk_Rule (GM_QX) hr (by rfl) T.g_Rule T.p_QX.b .nil Zv (Zc (pv 1) Zh)) Zh))))
 (Zr (Zy (ZA (G_QA) hr (by rfl) T.p_QA.g T.p_QA.k T.p_QA.b .nil Zv (Zc (XC T.mk_All (GM_Q4) hr (by rfl) T.g_All T.p_Q4.b .nil Zv (Zc (pv 1) (Zc (pv 3) Zh))) Zh)))))))))))))))))),[],?_⟩
 unfold Zjw;exact(Zo (show VS _ _ [] _ _ _ _ from(Z6 1 (ZJ [] (by rfl) (Ze (ZJ [] (by rfl) (Ze (Zd 0) (Ze (Zf (d:=(.int 0)) (by rfl) (by rfl)) Zg))) Zg))))
 (Zo (show VS _ _ [] _ _ _ _ from(Z6 2 (ZJ [] (by rfl) (Ze (Zd 0) (Ze (Zd 1) Zg)))))
 (Zo (show VS _ _ [3] _ _ _ _ from(Jg 3 (Xj (by rfl) (Xq (Zd 2)) (YN 0) Xi (ZJ [] (by rfl) (Ze (Zd 1) (Ze (Zd 0) Zg))))))
 (VS.frz (ow1:=[]) 3 (Zo (show VS _ _ [] _ _ _ _ from(Z6 4 (XF (c:="All") [] (by rfl) (Ze (Zd 1) (Ze (Zd 3) Zg)))))
 (Zo (show VS _ _ [] _ _ _ _ from(Z6 5 (VF.cl (Xj (by rfl) (Xq (Zd 2)) (YN 0) Xi (Vz Qt (Zf (d:=(.str [32])) (by rfl) (by rfl)) (Ze (ZJ [] (by rfl) (Ze (Zd 0) Zg)) Zg))))))
 (Zo (Qp (UT (Ze (ZL Yw (Ze (Zd 2) Zg)) Zg) UU) (YN 6) (ZI (XM (ZW (ZJ [] (by rfl) (Ze (Ui [] (by rfl) (Ze (Zk ZD (Zd 3) (Zd 6)) Zg)) (Ze (Zk ZD (Zd 5) (Zd 6)) Zg))))) (Zw (Zf (d:=(.bl false)) (by rfl) (by rfl))) ZH))
 (Zo (show VS _ _ [] _ _ _ _ from(Z6 7 (Vz Qt (Zf (d:=(.str [10])) (by rfl) (by rfl)) (Ze (VF.cl (U1 (VF.cl (Y4 (Ze (Zk XJ (Zf (d:=(.str [109,97,114,107,115,32])) (by rfl) (by rfl)) (Zd 1)) Zg))) (Zd 5))) Zg))))
 (Zo (ZI (XM (ZW (ZJ [] (by rfl) (Ze (Ui [] (by rfl) (Ze (Zd 4) Zg)) (Ze (Zd 7) Zg))))) (Zw (Zf (d:=(.bl false)) (by rfl) (by rfl))) ZH)
 (Zo (show VS _ _ [] _ _ _ _ from(Z6 8 (ZJ [] (by rfl) (Ze (Zd 7) Zg))))
 (Zo (ZI (X8 (XM (ZW (YO (λ_ h=>h) T.isi_All (Zd 8)))) (X8 (XM (ZW (ZJ [] (by rfl) (Ze (Z3 T.fl_marks (Zd 8)) (Ze (Zd 1) Zg))))) (Yg (Zk Vw (ZL Yw (Ze (Ji (Zd 8) Zg) Zg)) (ZL Yw (Ze (Zd 2) Zg)))))) (Zw (Zf (d:=(.bl false)) (by rfl) (by rfl))) ZH)
 (Zo (Qp (UT (Ze (ZL Yw (Ze (Zd 2) Zg)) Zg) UU) (YN 6) (Zo (show VS _ _ [] _ _ _ _ from(Z6 9 (Zk ZD (Ji (Zd 8) Zg) (Zd 6))))
 (ZI (X8 (XM (ZW (ZJ [] (by rfl) (Ze (ZJ [] (by rfl) (Ze (Zd 9) Zg)) (Ze (Zk ZD (Zd 2) (Zd 6)) Zg))))) (Yg (Zk Vw (Z3 T.fl_marks (Zd 9)) (Zd 1)))) (Zw (Zf (d:=(.bl false)) (by rfl) (by rfl))) ZH)))
 (Zo (ZI (X8 (XM (ZW (ZJ [] (by rfl) (Ze (Ui [] (by rfl) (Ze (Zd 8) Zg)) (Ze (Zd 7) Zg))))) (X8 (XM (ZW (ZJ [] (by rfl) (Ze (XF (c:="Rule") [] (by rfl) (Ze (Zd 1) Zg)) Zg)))) (XM (ZW (ZJ [] (by rfl) (Ze (Zd 4) Zg)))))) (Zw (Zf (d:=(.bl false)) (by rfl) (by rfl))) ZH)
 (Zo (show VS _ _ [3] _ _ _ _ from(Jg 3 (ZiH (Or.inl rfl) (Zd 3) UV (UW (Zf (d:=(.int 5)) (by rfl) (by rfl))))))
 (Zo (ZiI 3 (by rfl) (Zk YM (Zk Vx (ZJ [] (by rfl) (Ze (Zd 0) (Ze (Zf (d:=(.int 1)) (by rfl) (by rfl)) Zg))) (Zf (d:=(.int 7)) (by rfl) (by rfl))) (Zk XJ (ZL Yw (Ze (Ziz 3 (by rfl)) Zg)) (Zf (d:=(.int 1)) (by rfl) (by rfl)))) (XF (c:="Rule") [] (by rfl) (Ze (Zd 1) Zg)))
 (VS.frz (ow1:=[]) 3 (Zw (ZJ [] (by rfl) (Ze (XF (c:="All") [] (by rfl) (Ze (Zd 1) (Ze (Zd 3) Zg))) Zg)))))))))))))))))))
end
end K09
namespace K09
open L2
def X2(cs:List Nat):List Nat:=cs.takeWhile λx => !decide (x=35)
def Vq(cs:List Nat):List (List Nat):=(ZS 32 cs).filter λw => !decide (w=[])
def YG(cs:List Nat):List (List Nat):=Vq (X2 cs)
def XS:Nat->List (List Nat)->List (Nat×List (List Nat))
 |_,[]=>[]
 |n,r::rs=>if YG r=[]then XS (n+1) rs else(n,YG r)::XS (n+1) rs
theorem ZbA(c:Nat):∀(a b:List Nat),ZS c (a++c::b)=ZS c a++ZS c b
 | [],b=>by
  have e:ZS c (c::b)=[]::ZS c b:=by rw [ZS,if_pos rfl]
  exact e
 |x::a,b=>by
  show ZS c (x::(a++c::b))=_;have ih:=ZbA c a b;rw [ZS,ZS,ih]
  by_cases hx:x=c
  · rw [if_pos hx,if_pos hx];rfl
  · rw [if_neg hx,if_neg hx]
    cases h:ZS c a with
    |nil=>exact absurd h (Zb7 c a)
    |cons p ps=>rfl
theorem ZdY(a b:List Nat):Vq (a++32::b)=Vq a++Vq b:=by
 unfold Vq;rw [ZbA,List.filter_append]
theorem ZdZ:Vq []=[]:=by decide
theorem Zbg{w:List Nat}(h1:w≠[])(h2:32∉w):Vq w=[w]:=by
 unfold Vq;rw [Q9 h2];simp [h1]
def Good(w:List Nat):Prop:=w≠[]/\∀c∈w,c≠32/\c≠35/\c≠10
theorem Good.no32{w:List Nat}(h:Good w):32∉w:=λm=>(h.2 32 m).1 rfl
def Plain(r:List Nat):Prop:=∀c∈r,c≠35/\c≠10
theorem Plain.nil:Plain []:=λ_ h=>nomatch h
theorem Plain.app{a b:List Nat}(h1:Plain a)(h2:Plain b):Plain (a++b):=λc hc=>(List.mem_append.mp hc).elim (h1 c) (h2 c)
theorem Good.plain{w:List Nat}(h:Good w):Plain w:=λc hc=>(h.2 c hc).2
theorem ZcU{r:List Nat}(h:Plain r):X2 r=r:=by
 unfold X2;have:=List.takeWhile_append_of_pos (p:=λx => !decide (x=35)) (l₁:=r) (l₂:=[]) (λx hx=>by simpa using(h x hx).1);simpa using this
end K09
namespace K09
open DL L2
theorem Zfd(row:List Nat):(YF 35 row).1=X2 row:=by
 unfold YF X2
 have key:∀l:List Nat,l.takeWhile (λx => !decide (x=35))=if 0<=Uf 35 l then l.take (Uf 35 l).toNat else l:=by
  intro l
  induction l with
  |nil=>rfl
  |cons x l ih=>
   unfold Uf at ih ⊢;rw [List.findIdx?_cons]
   by_cases hx:x=35
   · subst hx
     simp
   · have h1:(x == 35)=false:=by simpa using hx
     rw [h1,List.takeWhile_cons_of_pos (by simpa using hx),ih];cases l.findIdx? (· == 35)with
     |none=>simp
     |some i=>
      have e1:(0:Int)<=(i:Int):=by omega
      have e2:(0:Int)<=((i+1:Nat):Int):=by omega
      simp only [Option.map_some,e1,e2,if_true,Int.toNat_natCast,List.take_succ_cons,Bool.false_eq_true,if_false]
 rw [key]
 split<;>rfl
def Zft:D->Bool
 | .str w => !decide (w=[])
 |_=>false
theorem words_in{row:List Nat}(hl:row.length<=1000000):JD [.str row]=some (.lst ((YG row).map D.str)):=by
 have hp:=Zfd row;have hz:row.length<=16777216:=by omega
 have hn:(X2 row).length<=1000000:=by
  unfold X2;exact Nat.le_trans (List.takeWhile_sublist _).length_le hl
 have hz2:(X2 row).length+2<=16777216:=by omega
 have hc:Yx (Zz 0) (xB (eOp neD (Za 0) (eC (.str [])))) (Za 0) [none] ((ZS 32 (X2 row)).map D.str)=some ((((ZS 32 (X2 row)).map D.str).filter Zft).map id):=by
  refine ZaO Zft id _ ?_;intro x hx;obtain⟨w,_,rfl⟩:=List.mem_map.mp hx;refine⟨_,rfl,?_,λ_=>rfl⟩;simp [Zz,Zft,DL.run,DL.runI,Zi,sIf,Zp,YY,sNext,Zt,ZV,Z5,Yn,sNever,xB,bD,ZQ,Yl,xOr,Za,eC,eOp,Yh,eOr,Yp,eIf,ZU,Yr,Yq,YD,eUn,Yv,eNil,Zb,ZE,Z1,eCB,lenD,minD,YX,Zm,ZT,Z8,Zu,eSl,xP,xNoP,addD,subD,mulD,fdivD,modD,ZZ,ixD,isD,eBM,ZK,Yi,kind,plainKinds,Yz,YA,Y0,YQ,YR,YS,YT,YU,Y1,Y2,Y3,List.lookup,Yb,CMul,PySem.sizeLine_eq,List.replicate]
 have he:((ZS 32 (X2 row)).map D.str).filter Zft=(YG row).map D.str:=by
  unfold YG Vq;rw [List.filter_map];rfl
 rw [he,List.map_id]at hc
 have hw:((YG row).map D.str).length<=16777216:=by
  rw [List.length_map];unfold YG Vq;have a:=List.length_filter_le (λw => !decide (w=[])) (ZS 32 (X2 row));have b:=Zas 32 (X2 row);omega
 have hw2:(YG row).length<=16777216:=by rw [List.length_map]at hw;exact hw
 generalize hA:atI [D.str (YF 35 row).1,D.str (YF 35 row).2.1,D.str (YF 35 row).2.2] 0=z at *;have hz0:z=some (.str (X2 row)):=by rw [<-hA,<-hp];rfl
 subst hz0;simp [JD,Zjg,partitionD,splitD,hA,hz,hz2,ZX,Z0,Xs,hc,hw2,DL.run,DL.runI,Zi,sIf,Zp,YY,sNext,Zt,ZV,Z5,Yn,sNever,xB,bD,ZQ,Yl,xOr,Za,eC,eOp,Yh,eOr,Yp,eIf,ZU,Yr,Yq,YD,eUn,Yv,eNil,Zb,ZE,Z1,eCB,lenD,minD,YX,Zm,ZT,Z8,Zu,eSl,xP,xNoP,addD,subD,mulD,fdivD,modD,ZZ,ixD,isD,eBM,ZK,Yi,kind,plainKinds,Yz,YA,Y0,YQ,YR,YS,YT,YU,Y1,Y2,Y3,List.lookup,Yb,CMul,PySem.sizeLine_eq,List.replicate]
end K09
namespace K09
open DL L2
theorem ZcK(ns:List Int)(k:Nat):X1 [.lst (ns.map D.int),.int k]=some (.int (ns.getD k 0)):=by
 by_cases h:k<ns.length
 · have hz : atI (ns.map D.int) (k : Int) = some (.int (ns.getD k 0)) := by
    refine ZbF ?_;rw [List.getElem?_map,List.getElem?_eq_getElem h,List.getD_eq_getElem?_getD,List.getElem?_eq_getElem h];rfl
   simp [X1,JH,h,hz,DL.run,DL.runI,Zi,sIf,Zp,YY,sNext,Zt,ZV,Z5,Yn,sNever,xB,bD,ZQ,Yl,xOr,Za,eC,eOp,Yh,eOr,Yp,eIf,ZU,Yr,Yq,YD,eUn,Yv,eNil,Zb,ZE,Z1,eCB,lenD,minD,YX,Zm,ZT,Z8,Zu,eSl,xP,xNoP,addD,subD,mulD,fdivD,modD,ZZ,ixD,isD,eBM,ZK,Yi,kind,plainKinds,Yz,YA,Y0,YQ,YR,YS,YT,YU,Y1,Y2,Y3,List.lookup,Yb,CMul,PySem.sizeLine_eq,List.replicate]
 · have hz:ns.getD k 0=0:=by rw [List.getD_eq_getElem?_getD,List.getElem?_eq_none (by omega)];rfl
   simp [X1,JH,h,hz,DL.run,DL.runI,Zi,sIf,Zp,YY,sNext,Zt,ZV,Z5,Yn,sNever,xB,bD,ZQ,Yl,xOr,Za,eC,eOp,Yh,eOr,Yp,eIf,ZU,Yr,Yq,YD,eUn,Yv,eNil,Zb,ZE,Z1,eCB,lenD,minD,YX,Zm,ZT,Z8,Zu,eSl,xP,xNoP,addD,subD,mulD,fdivD,modD,ZZ,ixD,isD,eBM,ZK,Yi,kind,plainKinds,Yz,YA,Y0,YQ,YR,YS,YT,YU,Y1,Y2,Y3,List.lookup,Yb,CMul,PySem.sizeLine_eq,List.replicate]
def Xz:Option Int->D
 |none => .non
 |some i => .int i
theorem is_mark(ms:List Nat)(c:Nat)(h:ms.length<=4):Qa [.str ms,.str [c]]=some (.bl (decide (c∈ms))):=by
 simp [Qa,Zi8,inD,DL.run,DL.runI,Zi,sIf,Zp,YY,sNext,Zt,ZV,Z5,Yn,sNever,xB,bD,ZQ,Yl,xOr,Za,eC,eOp,Yh,eOr,Yp,eIf,ZU,Yr,Yq,YD,eUn,Yv,eNil,Zb,ZE,Z1,eCB,lenD,minD,YX,Zm,ZT,Z8,Zu,eSl,xP,xNoP,addD,subD,mulD,fdivD,modD,ZZ,ixD,isD,eBM,ZK,Yi,kind,plainKinds,Yz,YA,Y0,YQ,YR,YS,YT,YU,Y1,Y2,Y3,List.lookup,Yb,CMul,PySem.sizeLine_eq,List.replicate]
theorem is_whole(i lo hi:Int):Vm [.int i,.int lo,.int hi]=some (.bl (decide (lo<=i/\i<=hi))):=by
 by_cases h:lo<=i<;>simp [Vm,Zi9,Jz,QL,h,DL.run,DL.runI,Zi,sIf,Zp,YY,sNext,Zt,ZV,Z5,Yn,sNever,xB,bD,ZQ,Yl,xOr,Za,eC,eOp,Yh,eOr,Yp,eIf,ZU,Yr,Yq,YD,eUn,Yv,eNil,Zb,ZE,Z1,eCB,lenD,minD,YX,Zm,ZT,Z8,Zu,eSl,xP,xNoP,addD,subD,mulD,fdivD,modD,ZZ,ixD,isD,eBM,ZK,Yi,kind,plainKinds,Yz,YA,Y0,YQ,YR,YS,YT,YU,Y1,Y2,Y3,List.lookup,Yb,CMul,PySem.sizeLine_eq,List.replicate]
theorem demand(cs:List Nat):Xo [.bl true,.str cs]=some .non:=by
 simp [Xo,Zja,DL.run,DL.runI,Zi,sIf,Zp,YY,sNext,Zt,ZV,Z5,Yn,sNever,xB,bD,ZQ,Yl,xOr,Za,eC,eOp,Yh,eOr,Yp,eIf,ZU,Yr,Yq,YD,eUn,Yv,eNil,Zb,ZE,Z1,eCB,lenD,minD,YX,Zm,ZT,Z8,Zu,eSl,xP,xNoP,addD,subD,mulD,fdivD,modD,ZZ,ixD,isD,eBM,ZK,Yi,kind,plainKinds,Yz,YA,Y0,YQ,YR,YS,YT,YU,Y1,Y2,Y3,List.lookup,Yb,CMul,PySem.sizeLine_eq,List.replicate]
theorem Zks:Xz none = .non:=rfl
theorem Zkt(i:Int):Xz (some i) = .int i:=rfl
structure Ms(ms:List Nat):Prop where
 lo:2<=ms.length
 hi:ms.length<=4
 st:JB [.str ms]=some (.bl true)
 sg:∀x∈ms,x∈cs_MARK_SIGNS
def SG:List Nat:=[97,98,99,100,101,102,103,104,105,106,107,108,109,110,111,112,113,114,115,116,117,118,119,120,121,122,48,49,50,51,52,53,54,55,56,57]
def X3(c:Int):Nat:=2+(c / 396 % 3).toNat
def sgn(c:Int)(k:Nat):Nat:=SG.getD ((c+k*(1+c / 36 % 11)) % 36).toNat 0
def Us(c:Int):List Nat:=(List.range (X3 c)).map (sgn c)
theorem ZlG{i:Int}(h0:0<=i)(h1:i<36):atI SG i=some (SG.getD i.toNat 0):=by
 obtain⟨x,h2,h3⟩:=ZgB (xs:=SG) h0 (by simpa [SG]using h1);rw [h2,List.getD_eq_getElem?_getD,h3];rfl
theorem ZiP:SG.length=36:=rfl
theorem Zc4{f:D->D->Option D}{a b:Env->Option D}{δ:Env}{x y:D}{r:Option D}(ha:a δ=some x)(hb:b δ=some y)(h:f x y=r):eOp f a b δ=r:=by
 unfold eOp;rw [ha,hb];exact h
def mkF(sg:List Nat)(c:Int):D->D
 | .int k => .str [sg.getD ((c+k*(1+c / 36 % 11)) % 36).toNat 0]
 |_ => .non
theorem Zfe{sg:List Nat}{c s k x:Int}{z:Nat}(hk:CMul k s)(hs:sg.length<=PySem.sizeLine)(hz:atI sg ((c+k*s) % 36)=some z):eOp ixD (Za 1) (eOp modD (eOp addD (Za 2) (eOp mulD (Za 0) (Za 3))) (eC (.int 36))) [some (.int k),some (.str sg),some (.int c),some (.int s)]=some (.str [z]):=
 Zc4 (x:=.str sg) (y:=.int ((c+k*s) % 36)) rfl (Zc4 (x:=.int (c+k*s)) (y:=.int 36) (Zc4 (x:=.int c) (y:=.int (k*s)) rfl (Zc4 (x:=.int k) (y:=.int s) rfl rfl (Zdu hk)) rfl) rfl (U4 (by omega))) (ZcG hs hz)
theorem Zd0(c:Int):Yx (Zz 0) (λ_=>some true) (eOp ixD (Za 1) (eOp modD (eOp addD (Za 2) (eOp mulD (Za 0) (Za 3))) (eC (.int 36)))) [none,some (.str SG),some (.int c),some (.int (1+c / 36 % 11))] (Ym 0 1 (X3 c))=some ((List.range (X3 c)).map λk => .str [sgn c k]):=by
 rw [V6 (mkF SG c)]
 · unfold Ym
   rw [List.map_map]
   congr 1
   refine List.map_congr_left λk _ => ?_
   have e:(0+(k:Int)*1)=k:=by omega
   show mkF SG c (.int (0+(k:Int)*1))=_;rw [e];rfl
 · intro x hx
   obtain⟨i,hi,rfl⟩:=ZbP hx;have hi4:i<5:=by unfold X3 at hi;omega
   have e:(0+(i:Int)*1)=i:=by omega
   rw [e];exact⟨_,rfl,Zfe (x:=0) (Zbz (by omega) (by omega)) (by rw [ZiP,PySem.sizeLine_eq];omega) (ZlG (by omega) (by omega))⟩
theorem Zf7(c:Int):JI [.int c]=some (.str (Us c)):=by
 have hm:(2+c / 396 % 3).toNat=X3 c:=by unfold X3;omega
 have hb : -(2 ^ 62)<=2+c / 396 % 3/\2+c / 396 % 3<2 ^ 62:=by omega
 have hc:=Zd0 c;have hj:=Zcg (sgn c) (List.range (X3 c)) (by rw [List.length_range,PySem.sizeLine_eq];unfold X3;omega);have hl:(List.range (X3 c)).length<=PySem.sizeLine:=by rw [List.length_range,PySem.sizeLine_eq];unfold X3;omega
 have e0:[97,98,99,100,101,102,103,104,105,106,107,108,109,110,111,112,113,114,115,116,117,118,119,120,121,122,48,49,50,51,52,53,54,55,56,57]=SG:=rfl;have d1:Yb c 36:=⟨by omega,by omega⟩
 have d2:Yb c 396:=⟨by omega,by omega⟩
 have e1:Us c=(List.range (X3 c)).map (sgn c):=rfl;rw [e1];unfold JI Zjp;rw [e0];generalize SG=sg at hc ⊢;generalize sgn c=sg2 at hc hj ⊢;simp only [DL.run,Zi,Zt,eC,eOp,addD,modD,fdivD,Za,Zp,eBM,Zb,eNil,ZX,Xr,List.map_cons,List.map_nil,List.length_cons,List.length_nil,List.cons_append,List.nil_append,Nat.reduceAdd,Nat.reduceSub,List.replicate,List.set_cons_zero,List.set_cons_succ,List.getElem?_cons_zero,List.getElem?_cons_succ,if_pos d1,if_pos d2,if_pos (show(0:Int)<11 by omega),if_pos (show(0:Int)<3 by omega),if_pos hb,hm,Xs,Option.getD_some,hc,List.length_map,if_pos hl,hj]
theorem ZiQ:∀i j:Fin 36,SG.getD i.val 0=SG.getD j.val 0->i=j:=by decide
theorem Zhz(c:Int){i j:Nat}(hi:i<4)(hj:j<4)(h:sgn c i=sgn c j):i=j:=by
 unfold sgn at h;have h1:((c+i*(1+c / 36 % 11)) % 36).toNat<36:=by omega
 have h2:((c+j*(1+c / 36 % 11)) % 36).toNat<36:=by omega
 have:=ZiQ ⟨_,h1⟩ ⟨_,h2⟩ h;have e:((c+i*(1+c / 36 % 11)) % 36).toNat=((c+j*(1+c / 36 % 11)) % 36).toNat:=congrArg Fin.val this;have hs:∃t:Int,c / 36 % 11=t/\0<=t/\t<=10:=⟨_,rfl,by omega,by omega⟩
 obtain⟨t,ht,ht0,ht1⟩:=hs;rw [ht]at e;rcases(show i=0\/i=1\/i=2\/i=3 by omega)with rfl|rfl|rfl|rfl<;>rcases(show j=0\/j=1\/j=2\/j=3 by omega)with rfl|rfl|rfl|rfl<;>first|rfl|(exfalso;omega)
theorem ZaE(c:Int):2<=(Us c).length/\(Us c).length<=4:=by
 unfold Us X3;rw [List.length_map,List.length_range];omega
theorem Zch{α β:Type}{f:α->β}:∀{l:List α},l.Nodup->(∀x∈l,∀y∈l,f x=f y->x=y)->(l.map f).Nodup
 | [],_,_=>List.nodup_nil
 |a::l,h,hf=>by
  rw [List.map_cons,List.nodup_cons];obtain⟨h1,h2⟩:=List.nodup_cons.mp h;refine⟨λhm => ?_,Zch h2 λx hx y hy=>hf x (List.mem_cons_of_mem _ hx) y (List.mem_cons_of_mem _ hy)⟩;obtain⟨b,hb,e⟩:=List.mem_map.mp hm;have:=hf b (List.mem_cons_of_mem _ hb) a List.mem_cons_self e;exact h1 (this▸hb)
theorem ZcV(c:Int):(Us c).Nodup:=by
 have hl:X3 c<=4:=by unfold X3;omega
 refine Zch List.nodup_range λx hx y hy h=>Zhz c ?_ ?_ h
 · have:=List.mem_range.mp hx;omega
 · have:=List.mem_range.mp hy;omega
theorem Zdv(c:Int):∀x∈Us c,x∈cs_MARK_SIGNS:=by
 intro x hx;obtain⟨k,_,rfl⟩:=List.mem_map.mp hx;unfold sgn;have h:((c+k*(1+c / 36 % 11)) % 36).toNat<36:=by omega
 generalize ((c+k*(1+c / 36 % 11)) % 36).toNat=i at h;have:∀i:Fin 36,SG.getD i.val 0∈cs_MARK_SIGNS:=by decide
 exact this ⟨i,h⟩
theorem ZlH{ms:List Nat}(h2:2<=ms.length)(h4:ms.length<=4)(hs:∀x∈ms,x∈cs_MARK_SIGNS)(hn:ms.Nodup):JB [.str ms]=some (.bl true):=by
 have hc:Yx (Zz 0) (λ_=>some true) (Yh (eOp (inD false) (Za 0) (eC (.str cs_MARK_SIGNS))) (eOp eqD (eBM countD (Za 1) (Zb (Za 0) eNil)) (eC (.int 1)))) [none,some (.str ms)] (ms.map λc => .str [c])=some (ms.map λ_ => .bl true):=by
  rw [V6 (λ_ => .bl true)]
  · rw [List.map_map];rfl
  · intro x hx
    obtain⟨c,hcm,rfl⟩:=List.mem_map.mp hx;have h1:ms.count c=1:=hn.count.trans (if_pos hcm);have h3:=hs c hcm;exact⟨_,rfl,by simp [Zz,inD,countD,h1,h3,DL.run,DL.runI,Zi,sIf,Zp,YY,sNext,Zt,ZV,Z5,Yn,sNever,xB,bD,ZQ,Yl,xOr,Za,eC,eOp,Yh,eOr,Yp,eIf,ZU,Yr,Yq,YD,eUn,Yv,eNil,Zb,ZE,Z1,eCB,lenD,minD,YX,Zm,ZT,Z8,Zu,eSl,xP,xNoP,addD,subD,mulD,fdivD,modD,ZZ,ixD,isD,eBM,ZK,Yi,kind,plainKinds,Yz,YA,Y0,YQ,YR,YS,YT,YU,Y1,Y2,Y3,List.lookup,Yb,CMul,PySem.sizeLine_eq,List.replicate]⟩
 have hb:Vy (ms.map λ_=>D.bl true)=some (ms.map λ_=>true):=by
  have:=ZaB (ms.map λ_=>true);rw [List.map_map]at this;exact this
 have ha:(ms.map λ_=>true).all id=true:=List.all_eq_true.mpr λb hb=>by
  obtain⟨_,_,rfl⟩:=List.mem_map.mp hb;rfl
 have hz:ms.length<=16777216:=by omega
 have g1:¬(ms.length:Int)<2:=by omega
 have g2:¬(4:Int)<ms.length:=by omega
 simp [JB,Zi7,ZX,Z0,Xs,hc,hb,ha,XN,hz,g1,g2,DL.run,DL.runI,Zi,sIf,Zp,YY,sNext,Zt,ZV,Z5,Yn,sNever,xB,bD,ZQ,Yl,xOr,Za,eC,eOp,Yh,eOr,Yp,eIf,ZU,Yr,Yq,YD,eUn,Yv,eNil,Zb,ZE,Z1,eCB,lenD,minD,YX,Zm,ZT,Z8,Zu,eSl,xP,xNoP,addD,subD,mulD,fdivD,modD,ZZ,ixD,isD,eBM,ZK,Yi,kind,plainKinds,Yz,YA,Y0,YQ,YR,YS,YT,YU,Y1,Y2,Y3,List.lookup,Yb,CMul,PySem.sizeLine_eq,List.replicate]
theorem Zf8(c:Int):Ms (Us c):=⟨(ZaE c).1,(ZaE c).2,ZlH (ZaE c).1 (ZaE c).2 (Zdv c) (ZcV c),Zdv c⟩
theorem ZgE{ms:List Nat}(hm:0<ms.length)(i:Int):∃z,atI ms (i % ms.length)=some z/\z∈ms:=by
 obtain⟨x,h1,h2⟩:=ZgB (xs:=ms) (i:=i % ms.length) (Int.emod_nonneg _ (by omega)) (Int.emod_lt_of_pos _ (by omega));exact⟨x,h1,List.mem_of_getElem? h2⟩
def Zfu(tab:MTab)(m:String)(o:D)(ds:List D):Option D:=match o with
 | .obj c ks xs=>if ks.contains m then none else match tab.lookup c with
  |some (n,mm)=>if(D.obj c ks xs::ds).length=n then mm (.obj c ks xs::ds)else none
  |none=>none
 |_=>none
theorem ZhA{m:String}{tab:MTab}{a:DL.Env->Option D}{α:DL.Env->Option (List D)}{δ:DL.Env}{o:D}{ds:List D}(h1:a δ=some o)(h2:α δ=some ds):Z8 m tab a α δ=Zfu tab m o ds:=by
 unfold Z8 Zfu;rw [h1];cases o<;>try rfl
 dsimp only;rw [h2]<;>(split<;>first|rfl|(cases tab.lookup _<;>rfl))
theorem Zf9{nm:String}{tab:MTab}{n:Nat}{c:String}{ks:List String}{vs:List D}{mm:List D->Option D}{ds:List D}(h2:ks.contains nm=false)(h3:tab.lookup c=some (n,mm))(h5:ds.length+1=n):Zfu tab nm (.obj c ks vs) ds=mm (.obj c ks vs::ds):=by
 unfold Zfu;dsimp only;rw [h2,if_neg Bool.false_ne_true,h3];dsimp only;rw [if_pos (show(D.obj c ks vs::ds).length=n by simpa using h5)]
end K09
namespace K09
open DL L2
theorem Qd{ms:List Nat}(M:Ms ms)(c:String)(h:fc_marks.contains c=true):XR [.obj c [] [],.str ms]=some (.obj c ["marks"] [.str ms]):=by
 have:=M.st;have h':c∈fc_marks:=by simpa using h
 simp [XR,Zjb,h',this,DL.run,DL.runI,Zi,sIf,Zp,YY,sNext,Zt,ZV,Z5,Yn,sNever,xB,bD,ZQ,Yl,xOr,Za,eC,eOp,Yh,eOr,Yp,eIf,ZU,Yr,Yq,YD,eUn,Yv,eNil,Zb,ZE,Z1,eCB,lenD,minD,YX,Zm,ZT,Z8,Zu,eSl,xP,xNoP,addD,subD,mulD,fdivD,modD,ZZ,ixD,isD,eBM,ZK,Yi,kind,plainKinds,Yz,YA,Y0,YQ,YR,YS,YT,YU,Y1,Y2,Y3,List.lookup,Yb,CMul,PySem.sizeLine_eq,List.replicate]
abbrev gap(ms:List Nat)(mk:Nat)(lo:Int)(mo:Option Int):D := .obj "Gap" ["marks", "mark", "least", "most"] [.str ms,.str [mk],.int lo,Xz mo]
theorem Zdw{ms:List Nat}(M:Ms ms){mk:Nat}(hk:mk∈ms){lo:Int}(h0:0<=lo)(h8:lo<=8)(mo:Option Int)(hmo:∀m,mo=some m->lo<=m/\m<=8):UC [.obj "Gap" [] [],.str ms,.str [mk],.int lo,Xz mo]=some (gap ms mk lo mo):=by
 have h1:=Qd M "Gap" rfl;have h2:=is_mark ms mk M.hi;have h3:=is_whole lo 0 8;cases mo with
 |none=>simp [UC,f_Q7,Vf,UB,Xw,h1,h2,hk,h3,h0,h8,demand,Zks,Zkt,gap,DL.run,DL.runI,Zi,sIf,Zp,YY,sNext,Zt,ZV,Z5,Yn,sNever,xB,bD,ZQ,Yl,xOr,Za,eC,eOp,Yh,eOr,Yp,eIf,ZU,Yr,Yq,YD,eUn,Yv,eNil,Zb,ZE,Z1,eCB,lenD,minD,YX,Zm,ZT,Z8,Zu,eSl,xP,xNoP,addD,subD,mulD,fdivD,modD,ZZ,ixD,isD,eBM,ZK,Yi,kind,plainKinds,Yz,YA,Y0,YQ,YR,YS,YT,YU,Y1,Y2,Y3,List.lookup,Yb,CMul,PySem.sizeLine_eq,List.replicate]
 |some m=>
  have h4:=is_whole m lo 8;have h5:=(hmo m rfl).1;have h6:=(hmo m rfl).2;simp [UC,f_Q7,Vf,UB,Xw,h1,h2,hk,h3,h0,h8,h4,h5,h6,demand,Zks,Zkt,gap,DL.run,DL.runI,Zi,sIf,Zp,YY,sNext,Zt,ZV,Z5,Yn,sNever,xB,bD,ZQ,Yl,xOr,Za,eC,eOp,Yh,eOr,Yp,eIf,ZU,Yr,Yq,YD,eUn,Yv,eNil,Zb,ZE,Z1,eCB,lenD,minD,YX,Zm,ZT,Z8,Zu,eSl,xP,xNoP,addD,subD,mulD,fdivD,modD,ZZ,ixD,isD,eBM,ZK,Yi,kind,plainKinds,Yz,YA,Y0,YQ,YR,YS,YT,YU,Y1,Y2,Y3,List.lookup,Yb,CMul,PySem.sizeLine_eq,List.replicate]
abbrev nev(ms wd:List Nat):D := .obj "Never" ["marks", "word"] [.str ms,.str wd]
theorem ZbB{ms wd:List Nat}(M:Ms ms)(h1:1<=wd.length)(hw:wd.length<=6)(hm:∀c∈wd,c∈ms):QM [.obj "Never" [] [],.str ms,.str wd]=some (nev ms wd):=by
 have hr:=Qd M "Never" rfl
 have hc:Yx (Zz 0) (λ_=>some true) (Zm 2 Qa [] (Zb (Za 1) (Zb (Za 0) eNil))) [none,some (.str ms)] (wd.map λc => .str [c])=some (wd.map λ_ => .bl true):=by
  rw [V6 (λ_ => .bl true)]
  · rw [List.map_map];rfl
  · intro x hx
    obtain⟨c,hcm,rfl⟩:=List.mem_map.mp hx;have h3:=is_mark ms c M.hi;have h4:=hm c hcm;exact⟨_,rfl,by simp [Zz,h3,h4,DL.run,DL.runI,Zi,sIf,Zp,YY,sNext,Zt,ZV,Z5,Yn,sNever,xB,bD,ZQ,Yl,xOr,Za,eC,eOp,Yh,eOr,Yp,eIf,ZU,Yr,Yq,YD,eUn,Yv,eNil,Zb,ZE,Z1,eCB,lenD,minD,YX,Zm,ZT,Z8,Zu,eSl,xP,xNoP,addD,subD,mulD,fdivD,modD,ZZ,ixD,isD,eBM,ZK,Yi,kind,plainKinds,Yz,YA,Y0,YQ,YR,YS,YT,YU,Y1,Y2,Y3,List.lookup,Yb,CMul,PySem.sizeLine_eq,List.replicate]⟩
 have hb:Vy (wd.map λ_=>D.bl true)=some (wd.map λ_=>true):=by
  have:=ZaB (wd.map λ_=>true);rw [List.map_map]at this;exact this
 have ha:(wd.map λ_=>true).all id=true:=List.all_eq_true.mpr λb hb=>by
  obtain⟨_,_,rfl⟩:=List.mem_map.mp hb;rfl
 have hz:wd.length<=16777216:=by omega
 have g1:(1:Int)<=wd.length:=by omega
 have g2:(wd.length:Int)<=6:=by omega
 simp [QM,Zjc,U8,hr,demand,ZX,Z0,Xs,hc,hb,ha,XN,hz,g1,g2,nev,DL.run,DL.runI,Zi,sIf,Zp,YY,sNext,Zt,ZV,Z5,Yn,sNever,xB,bD,ZQ,Yl,xOr,Za,eC,eOp,Yh,eOr,Yp,eIf,ZU,Yr,Yq,YD,eUn,Yv,eNil,Zb,ZE,Z1,eCB,lenD,minD,YX,Zm,ZT,Z8,Zu,eSl,xP,xNoP,addD,subD,mulD,fdivD,modD,ZZ,ixD,isD,eBM,ZK,Yi,kind,plainKinds,Yz,YA,Y0,YQ,YR,YS,YT,YU,Y1,Y2,Y3,List.lookup,Yb,CMul,PySem.sizeLine_eq,List.replicate]
abbrev ZgV(ms:List Nat)(mk:Nat)(ev at_:Int):D := .obj "Turn" ["marks", "mark", "every", "at"] [.str ms,.str [mk],.int ev,.int at_]
theorem Zci{ms:List Nat}(M:Ms ms){mk:Nat}(hk:mk∈ms){ev at_:Int}(h0:1<=ev)(h6:ev<=6)(h1:0<=at_)(h2:at_<=ev-1):QO [.obj "Turn" [] [],.str ms,.str [mk],.int ev,.int at_]=some (ZgV ms mk ev at_):=by
 have e1:=Qd M "Turn" rfl;have e2:=is_mark ms mk M.hi;have e3:=is_whole ev 1 6;have e4:=is_whole at_ 0 (ev-1);simp [QO,Zje,Vf,U6,U7,e1,e2,hk,e3,e4,h0,h6,h1,h2,demand,ZgV,DL.run,DL.runI,Zi,sIf,Zp,YY,sNext,Zt,ZV,Z5,Yn,sNever,xB,bD,ZQ,Yl,xOr,Za,eC,eOp,Yh,eOr,Yp,eIf,ZU,Yr,Yq,YD,eUn,Yv,eNil,Zb,ZE,Z1,eCB,lenD,minD,YX,Zm,ZT,Z8,Zu,eSl,xP,xNoP,addD,subD,mulD,fdivD,modD,ZZ,ixD,isD,eBM,ZK,Yi,kind,plainKinds,Yz,YA,Y0,YQ,YR,YS,YT,YU,Y1,Y2,Y3,List.lookup,Yb,CMul,PySem.sizeLine_eq,List.replicate]
abbrev Qe(ms:List Nat)(ws:List Int)(lo hi:Int):D := .obj "Sum" ["marks", "worths", "low", "high"] [.str ms,.tup (ws.map D.int),.int lo,.int hi]
theorem Zec{α:Type}(xs:List α):Vy (xs.map λ_=>D.bl true)=some (xs.map λ_=>true)/\(xs.map λ_=>true).all id=true:=by
 refine⟨?_,List.all_eq_true.mpr λb hb => ?_⟩
 · have:=ZaB (xs.map λ_=>true)
   rw [List.map_map]at this;exact this
 · obtain⟨_,_,rfl⟩:=List.mem_map.mp hb
   rfl
theorem Zdx{ms:List Nat}(M:Ms ms){ws:List Int}(hw:ws.length=ms.length)(h3:∀w∈ws,-3<=w/\w<=3){lo hi:Int}(h1 : -8<=lo)(h2:lo<=0)(h5:0<=hi)(h6:hi<=8):QN [.obj "Sum" [] [],.str ms,.tup (ws.map D.int),.int lo,.int hi]=some (Qe ms ws lo hi):=by
 have hr:=Qd M "Sum" rfl;have e3:=is_whole lo (-8) 0;have e4:=is_whole hi 0 8
 have hc:Yx (Zz 0) (λ_=>some true) (Zm 3 Vm [] (Zb (Za 0) (Zb (eUn Yv (eC (.int 3))) (Zb (eC (.int 3)) eNil)))) [none] (ws.map D.int)=some (ws.map λ_ => .bl true):=by
  rw [V6 (λ_ => .bl true)]
  · rw [List.map_map];rfl
  · intro x hx
    obtain⟨c,hcm,rfl⟩:=List.mem_map.mp hx;have e:=is_whole c (-3) 3;rw [decide_eq_true (h3 c hcm)]at e;exact⟨_,rfl,(Yk (Zj rfl (Zj rfl (Zj rfl nil_of))) rfl).trans e⟩
 obtain⟨hb,ha⟩:=Zec ws;have hz:ms.length<=16777216:=by have:=M.hi;omega
 have hz2:ws.length<=16777216:=by omega
 have hq:(ws.length:Int)=ms.length:=by omega
 simp [QN,Zjd,Uq,Up,Uo,hr,demand,ZX,Z0,Xs,hc,hb,ha,XN,hz,hz2,hw,hq,e3,e4,h1,h2,h5,h6,Qe,V0,DL.run,DL.runI,Zi,sIf,Zp,YY,sNext,Zt,ZV,Z5,Yn,sNever,xB,bD,ZQ,Yl,xOr,Za,eC,eOp,Yh,eOr,Yp,eIf,ZU,Yr,Yq,YD,eUn,Yv,eNil,Zb,ZE,Z1,eCB,lenD,minD,YX,Zm,ZT,Z8,Zu,eSl,xP,xNoP,addD,subD,mulD,fdivD,modD,ZZ,ixD,isD,eBM,ZK,Yi,kind,plainKinds,Yz,YA,Y0,YQ,YR,YS,YT,YU,Y1,Y2,Y3,List.lookup,Yb,CMul,PySem.sizeLine_eq,List.replicate]
abbrev Zed(ms:List Nat)(mo:Int):D := .obj "Alike" ["marks", "most"] [.str ms,.int mo]
theorem ZbC{ms:List Nat}(M:Ms ms){mo:Int}(h0:1<=mo)(h6:mo<=6):QP [.obj "Alike" [] [],.str ms,.int mo]=some (Zed ms mo):=by
 have e1:=Qd M "Alike" rfl;have e3:=is_whole mo 1 6;simp [QP,Zjf,Xw,e1,e3,h0,h6,demand,Zed,DL.run,DL.runI,Zi,sIf,Zp,YY,sNext,Zt,ZV,Z5,Yn,sNever,xB,bD,ZQ,Yl,xOr,Za,eC,eOp,Yh,eOr,Yp,eIf,ZU,Yr,Yq,YD,eUn,Yv,eNil,Zb,ZE,Z1,eCB,lenD,minD,YX,Zm,ZT,Z8,Zu,eSl,xP,xNoP,addD,subD,mulD,fdivD,modD,ZZ,ixD,isD,eBM,ZK,Yi,kind,plainKinds,Yz,YA,Y0,YQ,YR,YS,YT,YU,Y1,Y2,Y3,List.lookup,Yb,CMul,PySem.sizeLine_eq,List.replicate]
end K09
namespace K09
open DL L2
theorem Zma{i:Int}(h1 : -8<=i)(h2:i<=8):i∈([-8,-7,-6,-5,-4,-3,-2,-1,0,1,2,3,4,5,6,7,8]:List Int):=by
 simp only [List.mem_cons,List.not_mem_nil,or_false];omega
theorem in9{i:Int}(h1:0<=i)(h2:i<=8):i∈([0,1,2,3,4,5,6,7,8]:List Int):=by
 simp only [List.mem_cons,List.not_mem_nil,or_false];omega
theorem JW{i:Int}(h1:0<=i)(h2:i<=8):VD [.str (ZR i)]=some (.int i):=by
 have:=in9 h1 h2;simp only [List.mem_cons,List.not_mem_nil,or_false]at this;rcases this with h|h|h|h|h|h|h|h|h<;>subst h<;>rfl
theorem ZcW{i:Int}(h1 : -8<=i)(h2:i<=8):JE [.str (ZR i)]=some (.int i):=by
 have:=Zma h1 h2;simp only [List.mem_cons,List.not_mem_nil,or_false]at this;rcases this with h|h|h|h|h|h|h|h|h|h|h|h|h|h|h|h|h<;>subst h<;>rfl
theorem Zga:VD [.str [97,110,121]]=some .non:=rfl
theorem ZhB{i:Int}(h1 : -8<=i)(h2:i<=8):strW [.int i]=some (.str (ZR i)):=if_pos (by have:(10:Nat) ^ 10=10000000000:=rfl;omega)
theorem UF{i:Int}(h1 : -8<=i)(h2:i<=8):Good (ZR i)/\(ZR i).length<=8:=by
 have:=Zma h1 h2;simp only [List.mem_cons,List.not_mem_nil,or_false]at this;rcases this with h|h|h|h|h|h|h|h|h|h|h|h|h|h|h|h|h<;>subst h<;>exact⟨⟨by decide,by decide⟩,by decide⟩
inductive R
 |gap (mk:Nat) (lo:Int) (mo:Option Int)
 |never (w:List Nat)
 |sum (ws:List Int) (lo hi:Int)
 |turn (mk:Nat) (ev at_:Int)
 |alike (mo:Int)
def R.Ok(ms:List Nat):R->Prop
 | .gap mk lo mo=>mk∈ms/\0<=lo/\lo<=8/\∀m,mo=some m->lo<=m/\m<=8
 | .never w=>1<=w.length/\w.length<=6/\∀c∈w,c∈ms
 | .sum ws lo hi=>ws.length=ms.length/\(∀w∈ws,-3<=w/\w<=3) /\ -8<=lo/\lo<=0/\0<=hi/\hi<=8
 | .turn mk ev at_=>mk∈ms/\1<=ev/\ev<=6/\0<=at_/\at_<=ev-1
 | .alike mo=>1<=mo/\mo<=6
def moW:Option Int->List Nat
 |none=>[97,110,121]
 |some m=>ZR m
def R.words:R->List (List Nat)
 | .gap mk lo mo=>[[103,97,112],[mk],ZR lo,moW mo]
 | .never w=>[[110,101,118,101,114],w]
 | .sum ws lo hi=>[115,117,109]::ZR lo::ZR hi::ws.map ZR
 | .turn mk ev at_=>[[116,117,114,110],[mk],ZR ev,ZR at_]
 | .alike mo=>[[97,108,105,107,101],ZR mo]
def R.val:R->D
 | .gap mk lo mo => .tup [.str [103,97,112],.str [mk],.int lo,Xz mo]
 | .never w => .tup [.str [110,101,118,101,114],.str w]
 | .sum ws lo hi => .tup [.str [115,117,109],.tup (ws.map D.int),.int lo,.int hi]
 | .turn mk ev at_ => .tup [.str [116,117,114,110],.str [mk],.int ev,.int at_]
 | .alike mo => .tup [.str [97,108,105,107,101],.int mo]
def R.obj(ms:List Nat):R->D
 | .gap mk lo mo=>K09.gap ms mk lo mo
 | .never w=>nev ms w
 | .sum ws lo hi=>Qe ms ws lo hi
 | .turn mk ev at_=>ZgV ms mk ev at_
 | .alike mo=>Zed ms mo
theorem ZhC:∀x∈cs_MARK_SIGNS,x≠32/\x≠35/\x≠10:=by decide
theorem ZcL{ms w:List Nat}(M:Ms ms)(h1:1<=w.length)(h:∀c∈w,c∈ms):Good w:=⟨λz=>by rw [z]at h1;exact absurd h1 (by decide),λc hc=>ZhC c (M.sg c (h c hc))⟩
theorem R.good{ms:List Nat}(M:Ms ms){r:R}(o:r.Ok ms):r.words.length<=7/\∀w∈r.words,Good w/\w.length<=8:=by
 have one:∀c,c∈ms->Good [c]/\[c].length<=8:=λc hc=>⟨ZcL M (Nat.le_refl 1) λx hx=>by rw [List.mem_singleton]at hx;rw [hx];exact hc,show 1<=8 by decide⟩
 cases r with
 |gap mk lo mo=>
  obtain⟨a,b,c,d⟩:=o;refine⟨show 4<=7 by decide,?_⟩
  have e:Good (moW mo)/\(moW mo).length<=8:=by
   cases mo with
   |none=>exact⟨⟨by decide,by decide⟩,by decide⟩
   |some m=>exact UF (by have:=d m rfl;omega) (d m rfl).2
  simp only [R.words,List.forall_mem_cons];exact⟨⟨⟨by decide,by decide⟩,by decide⟩,one mk a,UF (by omega) c,e,λ_ z=>nomatch z⟩
 |never w=>
  refine⟨show 2<=7 by decide,?_⟩;simp only [R.words,List.forall_mem_cons];exact⟨⟨⟨by decide,by decide⟩,by decide⟩,⟨ZcL M o.1 o.2.2,by have:=o.2.1;omega⟩,λ_ z=>nomatch z⟩
 |sum ws lo hi=>
  obtain⟨a,b,c,d,e,f⟩:=o;have:=M.hi;refine⟨by simp only [R.words,List.length_cons,List.length_map];omega,?_⟩;simp only [R.words,List.forall_mem_cons];refine⟨⟨⟨by decide,by decide⟩,by decide⟩,UF c (by omega),UF (by omega) f,λw hw => ?_⟩;obtain⟨i,hi,rfl⟩:=List.mem_map.mp hw;have:=b i hi;exact UF (by omega) (by omega)
 |turn mk ev at_=>
  obtain⟨a,b,c,d,e⟩:=o;refine⟨show 4<=7 by decide,?_⟩;simp only [R.words,List.forall_mem_cons];exact⟨⟨⟨by decide,by decide⟩,by decide⟩,one mk a,UF (by omega) (by omega),UF (by omega) (by omega),λ_ z=>nomatch z⟩
 |alike mo=>
  refine⟨show 2<=7 by decide,?_⟩;simp only [R.words,List.forall_mem_cons];exact⟨⟨⟨by decide,by decide⟩,by decide⟩,UF (by have:=o.1;omega) (by have:=o.2;omega),λ_ z=>nomatch z⟩
theorem R.ne{r:R}:r.words≠[]:=by cases r<;>exact λz=>nomatch z
end K09
namespace K09
open DL L2
structure Mk(ms:List Nat)(d o:D):Prop where
 nn:Yq d=false
 cl:Jr 0 lt_all (Zb (Za 1) eNil) [some d,some (.str ms)]=some o
theorem made{ms:List Nat}{k:Nat}{xs:List D}{m:List D->Option D}{o:D}(h1:lt_all.find? (·.1 == k)=some (k,1,m))(h2:XG xs=true)(h3:m (.str ms::xs)=some o):Mk ms (.clo k xs) o:=by
 refine⟨rfl,?_⟩
 show(match lt_all.find? (·.1 == k)with
  |some (_,n,m)=>if 1=n/\XG [D.str ms]=true/\XG xs=true then m ([D.str ms]++xs)else none
  |none=>none)=_
 rw [h1];dsimp only;rw [if_pos ⟨rfl,rfl,h2⟩];exact h3
theorem JX{c:List Nat}{m:List D->Option D}{ws:List D}{d:D}(h1:mt_MAKERS.find? (·.1 == c)=some (c,1,m))(h2:m [.lst (.str c::ws)]=some d):V7 [.lst (.str c::ws)]=some d:=by
 have e0:eOp ixD (Za 0) (eC (.int 0)) [some (.lst (.str c::ws)),none]=some (.str c):=(Zs rfl rfl).trans (YV (a:=0) rfl)
 have t:xB (Jt mt_MAKERS (eOp ixD (Za 0) (eC (.int 0)))) [some (.lst (.str c::ws)),none]=some false:=by
  refine Yj ?_;unfold Jt;rw [e0];dsimp only;rw [h1];rfl
 have h:Zjl [some (.lst (.str c::ws)),none]=some (.rt d):=by
  refine(Zq (δ':=[some (.lst (.str c::ws)),none]) ((Yd t).trans rfl)).trans ?_;unfold sMk;rw [e0];dsimp only;rw [h1];show(if 1<2/\1=1 then(m [.lst (.str c::ws)]).map Out.rt else none)=_;rw [if_pos ⟨by decide,rfl⟩,h2];rfl
 exact Z9 rfl h
theorem JY{N k:Nat}{φ:DL.Env->Option Out}{js:List Nat}{ds xs:List D}{δ δ':DL.Env}(h1:ds.map some++List.replicate (N-ds.length) none=δ)(h2:φ δ=some (.nx δ'))(h3:pick δ' js=some xs):V4 N φ k js ds=some (.clo k xs):=by
 unfold V4;rw [h1,h2];dsimp only;rw [h3];rfl
theorem Zdy:∀ws:List Int,XG (ws.map D.int)=true
 | []=>rfl
 |i::ws=>by
  have:=Zdy ws;simp [XG,ncl,this]
theorem UG{e:DL.Env->Option D}{δ:DL.Env}{d:D}(h:e δ=some d):ZU e δ=some (.bl (Yq d)):=by
 unfold ZU;rw [h]
theorem V9{e:DL.Env->Option D}{δ:DL.Env}{d:D}(h:e δ=some d)(hn:Yq d=false):xB (ZU e) δ=some false:=Yj ((UG h).trans (by rw [hn]))
theorem neN(i j:Int)(h:i=j):neD (.int i) (.int j)=some (.bl false):=by
 rw [YT];simp [h]
theorem neS(i j:List Nat)(h:i=j):neD (.str i) (.str j)=some (.bl false):=by
 rw [YU];simp [h]
theorem gap_maker{ms:List Nat}(M:Ms ms){mk:Nat}{lo:Int}{mo:Option Int}(o:(R.gap mk lo mo).Ok ms):∃d,V7 [.lst ((R.gap mk lo mo).words.map D.str)]=some d/\Mk ms d ((R.gap mk lo mo).obj ms):=by
 obtain⟨a,b,c,d⟩:=o;have n1:=JW b c
 have n2:VD [.str (moW mo)]=some (Xz mo):=by
  cases mo with
  |none=>exact Zga
  |some m=>exact JW (by have:=d m rfl;omega) (d m rfl).2
 have n3:Yq (Xz mo)=true->moW mo=[97,110,121]:=by
  cases mo with
  |none=>exact λ_=>rfl
  |some m=>exact λz=>nomatch z
 have G:=Zdw M a b c mo d;refine⟨.clo 0 [.lst ((R.gap mk lo mo).words.map D.str),.int lo,Xz mo],JX (ws:=[.str [mk],.str (ZR lo),.str (moW mo)]) (m:=Zjj) rfl ?_,made (m:=Zap) rfl ?_ ?_⟩
 · show Zjj [.lst [.str [103,97,112],.str [mk],.str (ZR lo),.str (moW mo)]]=some (.clo 0 [.lst [.str [103,97,112],.str [mk],.str (ZR lo),.str (moW mo)],.int lo,Xz mo])
   generalize ZR lo=x at *;generalize moW mo=y at *;generalize Xz mo=z at *;have t1:xB (eOp neD (eCB lenD (Zb (Za 0) eNil)) (eC (.int 4))) [some (.lst [.str [103,97,112],.str [mk],.str x,.str y]),none,none]=some false:=Yj ((Zs (x:=.int 4) rfl rfl).trans (neN _ _ rfl))
   have t2:xOr (xB (ZU (Za 1))) (Yl (xB (ZU (Za 2))) (xB (eOp neD (eOp ixD (Za 0) (eC (.int 3))) (eC (.str [97,110,121]))))) [some (.lst [.str [103,97,112],.str [mk],.str x,.str y]),some (.int lo),some z]=some false:=by
    refine Um (V9 rfl rfl) ?_;cases hz:Yq z with
    |false=>exact Zhu (Yj ((UG rfl).trans (by rw [hz])))
    |true=>exact Zf6 (Yj ((UG rfl).trans (by rw [hz]))) (Yj ((Zs (x:=.str y) ((Zs rfl rfl).trans (YV (a:=3) rfl)) rfl).trans (neS _ _ (n3 hz))))
   refine JY rfl (δ':=[some (.lst [.str [103,97,112],.str [mk],.str x,.str y]),some (.int lo),some z]) ?_ rfl;refine(Zq ((Yd t1).trans rfl)).trans ((Zq (Yc ((Yk (Zj ((Zs rfl rfl).trans (YV (a:=2) rfl)) nil_of) rfl).trans n1))).trans ((Zq (Yc ((Yk (Zj ((Zs rfl rfl).trans (YV (a:=3) rfl)) nil_of) rfl).trans n2))).trans ((Yd t2).trans rfl)))
 · cases mo<;>rfl
 · show Zad [some (.str ms),some (.lst [.str [103,97,112],.str [mk],.str (ZR lo),.str (moW mo)]),some (.int lo),some (Xz mo)]=_
   exact(XQ (Zj rfl (Zj ((Zs rfl rfl).trans (YV (a:=1) rfl)) (Zj rfl (Zj rfl nil_of)))) rfl).trans G
theorem never_maker{ms:List Nat}(M:Ms ms){w:List Nat}(o:(R.never w).Ok ms):∃d,V7 [.lst ((R.never w).words.map D.str)]=some d/\Mk ms d ((R.never w).obj ms):=by
 have G:=ZbB M o.1 o.2.1 o.2.2;refine⟨.clo 1 [.lst ((R.never w).words.map D.str)],JX (ws:=[.str w]) (m:=Zj9) rfl ?_,made (m:=Zah) rfl rfl ?_⟩
 · have t1:xB (eOp neD (eCB lenD (Zb (Za 0) eNil)) (eC (.int 2))) [some (.lst [.str [110,101,118,101,114],.str w])]=some false:=Yj ((Zs (x:=.int 2) rfl rfl).trans (neN _ _ rfl))
   exact JY rfl (δ':=[some (.lst [.str [110,101,118,101,114],.str w])]) ((Yd t1).trans rfl) rfl
 · show Zaa [some (.str ms),some (.lst [.str [110,101,118,101,114],.str w])]=_
   exact(XQ (Zj rfl (Zj ((Zs rfl rfl).trans (YV (a:=1) rfl)) nil_of)) rfl).trans G
theorem turn_maker{ms:List Nat}(M:Ms ms){mk:Nat}{ev at_:Int}(o:(R.turn mk ev at_).Ok ms):∃d,V7 [.lst ((R.turn mk ev at_).words.map D.str)]=some d/\Mk ms d ((R.turn mk ev at_).obj ms):=by
 obtain⟨a,b,c,d,e⟩:=o;have n1:=JW (i:=ev) (by omega) (by omega);have n2:=JW (i:=at_) (by omega) (by omega);have G:=Zci M a b c d e;refine⟨.clo 3 [.lst ((R.turn mk ev at_).words.map D.str),.int ev,.int at_],JX (ws:=[.str [mk],.str (ZR ev),.str (ZR at_)]) (m:=Zjk) rfl ?_,made (m:=Zan) rfl rfl ?_⟩
 · show Zjk [.lst [.str [116,117,114,110],.str [mk],.str (ZR ev),.str (ZR at_)]]=some (.clo 3 [.lst [.str [116,117,114,110],.str [mk],.str (ZR ev),.str (ZR at_)],.int ev,.int at_])
   generalize ZR ev=x at *;generalize ZR at_=y at *;have t1:xB (eOp neD (eCB lenD (Zb (Za 0) eNil)) (eC (.int 4))) [some (.lst [.str [116,117,114,110],.str [mk],.str x,.str y]),none,none]=some false:=Yj ((Zs (x:=.int 4) rfl rfl).trans (neN _ _ rfl));refine JY rfl (δ':=[some (.lst [.str [116,117,114,110],.str [mk],.str x,.str y]),some (.int ev),some (.int at_)]) ?_ rfl
   exact(Zq ((Yd t1).trans rfl)).trans ((Zq (Yc ((Yk (Zj ((Zs rfl rfl).trans (YV (a:=2) rfl)) nil_of) rfl).trans n1))).trans ((Zq (Yc ((Yk (Zj ((Zs rfl rfl).trans (YV (a:=3) rfl)) nil_of) rfl).trans n2))).trans ((Yd (Um (V9 rfl rfl) (V9 rfl rfl))).trans rfl)))
 · show Zac [some (.str ms),some (.lst [.str [116,117,114,110],.str [mk],.str (ZR ev),.str (ZR at_)]),some (.int ev),some (.int at_)]=_
   exact(XQ (Zj rfl (Zj ((Zs rfl rfl).trans (YV (a:=1) rfl)) (Zj rfl (Zj rfl nil_of)))) rfl).trans G
theorem alike_maker{ms:List Nat}(M:Ms ms){mo:Int}(o:(R.alike mo).Ok ms):∃d,V7 [.lst ((R.alike mo).words.map D.str)]=some d/\Mk ms d ((R.alike mo).obj ms):=by
 have n1:=JW (i:=mo) (by have:=o.1;omega) (by have:=o.2;omega);have G:=ZbC M o.1 o.2;refine⟨.clo 4 [.int mo],JX (ws:=[.str (ZR mo)]) (m:=Zkb) rfl ?_,made (m:=Zai) rfl rfl ?_⟩
 · generalize ZR mo=x at *
   have t1:xB (eOp neD (eCB lenD (Zb (Za 0) eNil)) (eC (.int 2))) [some (.lst [.str [97,108,105,107,101],.str x]),none]=some false:=Yj ((Zs (x:=.int 2) rfl rfl).trans (neN _ _ rfl));exact JY rfl (δ':=[some (.lst [.str [97,108,105,107,101],.str x]),some (.int mo)]) ((Zq ((Yd t1).trans rfl)).trans ((Zq (Yc ((Yk (Zj ((Zs rfl rfl).trans (YV (a:=1) rfl)) nil_of) rfl).trans n1))).trans ((Yd (V9 rfl rfl)).trans rfl))) rfl
 · show Zab [some (.str ms),some (.int mo)]=_
   exact(XQ (Zj rfl (Zj rfl nil_of)) rfl).trans G
end K09
namespace K09
open DL L2
theorem cut_from{α:Type}(r:List α)(j:Nat):cutL r (some (j:Int)) none=r.drop j:=by
 unfold cutL YE;have e:¬((j:Int)<0):=by omega
 have e2:((j:Int)).toNat=j:=by omega
 simp only [e,if_false,e2]
 by_cases h:j<=r.length
 · rw [Nat.min_eq_left h]
   exact List.take_of_length_le (by simp)
 · rw [Nat.min_eq_right (by omega),List.drop_of_length_le (Nat.le_refl _),List.drop_of_length_le (by omega)]
   simp
theorem Zee{a:DL.Env->Option D}{δ:DL.Env}{xs:List D}(j:Nat)(h:a δ=some (.lst xs)):eSl a (xP (eC (.int (j:Int)))) xNoP δ=some (.lst (xs.drop j)):=by
 unfold eSl;rw [h];show some (D.lst (cutL xs (some (j:Int)) none))=_;rw [cut_from]
theorem Qf{a:DL.Env->Option D}{δ:DL.Env}{xs:List D}(h:a δ=some (.lst xs)):Z0 a δ=some xs:=by
 unfold Z0;rw [h]
theorem Ua{γ:D->DL.Env->Option DL.Env}{ε:DL.Env->Option D}{δ δ1:DL.Env}{x y:D}{xs ys:List D}(h1:γ x δ=some δ1)(h2:ε δ1=some y)(h3:Yx γ (λ_=>some true) ε δ xs=some ys):Yx γ (λ_=>some true) ε δ (x::xs)=some (y::ys):=by
 unfold Yx;rw [h1];dsimp only;rw [h2,h3]
theorem ZgF:∀is:List Int,inV .non ((is.map D.int).map val)=false
 | []=>rfl
 |i::is=>by
  unfold inV;rw [List.map_cons,List.map_cons,List.any_cons];have:=ZgF is;unfold inV at this;rw [this];rfl
theorem ZeA:∀is:List Int,(is.map D.int).all ZY=true
 | []=>rfl
 |i::is=>by rw [List.map_cons,List.all_cons,ZeA is];rfl
theorem sum_maker{ms:List Nat}(M:Ms ms){ws:List Int}{lo hi:Int}(o:(R.sum ws lo hi).Ok ms):∃d,V7 [.lst ((R.sum ws lo hi).words.map D.str)]=some d/\Mk ms d ((R.sum ws lo hi).obj ms):=by
 obtain⟨a,b,c,d,e,f⟩:=o;have hm:=M.hi;have G:=Zdx M a b c d e f
 have hb:∀i∈lo::hi::ws,-8<=i/\i<=8:=by
  simp only [List.forall_mem_cons];exact⟨⟨by omega,by omega⟩,⟨by omega,by omega⟩,λi hi=>by have:=b i hi;omega⟩
 have hl:(lo::hi::ws).length<=6:=by simp only [List.length_cons];omega
 have hl2:2<=(lo::hi::ws).length:=by simp only [List.length_cons];omega
 have hw:(R.sum ws lo hi).words.map D.str = .str [115,117,109]::((lo::hi::ws).map λi=>D.str (ZR i)):=by
  simp only [R.words,List.map_cons,List.map_map];rfl
 rw [hw];refine⟨.clo 2 [.lst ((lo::hi::ws).map D.int)],JX (m:=Zka) rfl ?_,made (m:=Zaq) rfl (by simp [XG,ncl,Zdy]) ?_⟩
 · generalize hi':lo::hi::ws=is at *
   have t1:xB (eOp (ZZ λi j=>decide (i<j)) (eCB lenD (Zb (Za 0) eNil)) (eC (.int 3))) [some (.lst (.str [115,117,109]::(is.map λi=>D.str (ZR i)))),none]=some false:=by
    refine Yj ((Zs ((Xv (Zj rfl nil_of)).trans len_lst) rfl).trans ?_);show some (D.bl (decide ((((D.str [115,117,109]::(is.map λi=>D.str (ZR i))).length:Nat):Int)<3)))=_;rw [decide_eq_false (by rw [List.length_cons,List.length_map];omega)]
   have t2:ZX (Z0 (eSl (Za 0) (xP (eC (.int 1))) xNoP)) (Zz 0) (λ_=>some true) (Zm 1 JE [] (Zb (Za 0) eNil)) 1 [] [some (.lst (.str [115,117,109]::(is.map λi=>D.str (ZR i)))),none]=some (.lst (is.map D.int)):=by
    refine Ve (xs:=is.map λi=>D.str (ZR i)) (Qf (Zee (xs:=.str [115,117,109]::(is.map λi=>D.str (ZR i))) 1 rfl)) rfl ?_ (by rw [List.length_map];omega)
    · have key : ∀ js : List Int, (∀ i ∈ js, -8 <= i /\ i <= 8) -> Yx (Zz 0) (fun _ => some true) (Zm 1 JE [] (Zb (Za 0) eNil)) [none] (js.map fun i => D.str (ZR i)) = some (js.map D.int) := by
       intro js
       induction js with
       |nil=>exact λ_=>rfl
       |cons i js ih=>
        intro hj;have e1:=ZcW (hj i List.mem_cons_self).1 (hj i List.mem_cons_self).2;have e2:=ih λx hx=>hj x (List.mem_cons_of_mem _ hx)
        rw [List.map_cons,List.map_cons];exact Ua rfl ((Yk (Zj rfl nil_of) rfl).trans e1) e2
      exact key is hb
   have t3:xB (eOp (inD false) (eC .non) (Za 1)) [some (.lst (.str [115,117,109]::(is.map λi=>D.str (ZR i)))),some (.lst (is.map D.int))]=some false:=by
    refine Yj ((Zs rfl rfl).trans ?_);show(if ZY .non&&(is.map D.int).all ZY then some (D.bl (inV .non ((is.map D.int).map val)))else none)=_;rw [ZeA,ZgF];rfl
   exact JY rfl ((Zq ((Yd t1).trans rfl)).trans ((Zq (Yc t2)).trans ((Yd t3).trans rfl))) rfl
 · show Zae [some (.str ms),some (.lst (.int lo :: .int hi::ws.map D.int))]=_
   exact(XQ (Zj rfl (Zj ((Xv (Zj (Zee 2 rfl) nil_of)).trans rfl) (Zj ((Zs rfl rfl).trans (YV (a:=0) rfl)) (Zj ((Zs rfl rfl).trans (YV (a:=1) rfl)) nil_of)))) rfl).trans G
theorem maker{ms:List Nat}(M:Ms ms){r:R}(o:r.Ok ms):∃d,V7 [.lst (r.words.map D.str)]=some d/\Mk ms d (r.obj ms):=by
 cases r with
 |gap=>exact gap_maker M o
 |never=>exact never_maker M o
 |sum=>exact sum_maker M o
 |turn=>exact turn_maker M o
 |alike=>exact alike_maker M o
theorem Xb{t:List (String×Bool)}{a:DL.Env->Option D}{δ:DL.Env}{d:D}{b:Bool}(h1:a δ=some d)(h2:Yi t d=some b):xB (ZK t a) δ=some b:=Yj (Zc2 h1 h2)
theorem ZiR{ms:List Nat}(r:R):Zjs [r.obj ms]=some r.val:=by
 cases r<;>rfl
theorem Y8{e:DL.Env->Option D}{δ:DL.Env}{i:Int}(h:e δ=some (.int i))(h1 : -8<=i)(h2:i<=8):eCB strW (Zb e eNil) δ=some (.str (ZR i)):=(Xv (Zj h nil_of)).trans (ZhB h1 h2)
theorem Zba{ws:List Int}(h:∀w∈ws,-3<=w/\w<=3):Yx (Zz 0) (λ_=>some true) (eCB strW (Zb (Za 0) eNil)) [none] (ws.map D.int)=some ((ws.map ZR).map D.str):=by
 rw [V6 (λd=>match d with | .int i => .str (ZR i)|_ => .non)]
 · rw [List.map_map,List.map_map];rfl
 · intro x hx
   obtain⟨i,hi,rfl⟩:=List.mem_map.mp hx;have:=h i hi;exact⟨_,rfl,Y8 rfl (by omega) (by omega)⟩
theorem QY{a b:List D}(h:a.length+b.length<=100000):Vd (.lst a) (.lst b)=some (.lst (a++b)):=Zhx h
end K09
namespace K09
open DL L2
theorem ZeB{t:DL.Env->Option Bool}{a b:DL.Env->Option D}{δ:DL.Env}(h:t δ=some true):eIf t a b δ=a δ:=by
 unfold eIf;rw [h]
theorem ZgG{t:DL.Env->Option Bool}{a b:DL.Env->Option D}{δ:DL.Env}(h:t δ=some false):eIf t a b δ=b δ:=by
 unfold eIf;rw [h]
theorem rule_words{ms:List Nat}(M:Ms ms){r:R}(o:r.Ok ms):Zkf [r.obj ms]=some (.lst (r.words.map D.str)):=by
 have no:∀{t:List (String×Bool)}{φ:DL.Env->Option Out}{d:D},Yi t d=some false->sIf (xB (ZK t (Za 0))) φ sNext [some d,none]=some (.nx [some d,none]):=λh=>(Yd (Xb rfl h)).trans rfl
 cases r with
 |gap mk lo mo=>
  obtain⟨a,b,c,d⟩:=o
  have e1:eIf (xB (ZU (Zu Xw "most" (Za 0)))) (eC (.str [97,110,121])) (eCB strW (Zb (Zu Xw "most" (Za 0)) eNil)) [some (gap ms mk lo mo),none]=some (.str (moW mo)):=by
   cases mo with
   |none=>exact ZeB (Yj ((UG (d:=.non) rfl).trans rfl))
   |some m=>exact(ZgG (V9 (d:=.int m) rfl rfl)).trans (Y8 rfl (by have:=d m rfl;omega) (d m rfl).2)
  exact Z9 rfl (Xm ((Xu (Xb rfl rfl)).trans ((Zq (Yc e1)).trans (Ys (Xn (Zj rfl (Zj rfl (Zj (Y8 rfl (by omega) c) (Zj rfl nil_of)))) (show 4<=1000 by decide))))))
 |never w=>exact Z9 rfl ((Zq (no rfl)).trans (Xm ((Xu (Xb rfl rfl)).trans (Ys (Xn (Zj rfl (Zj rfl nil_of)) (show 2<=1000 by decide))))))
 |sum ws lo hi=>
  obtain⟨a,b,c,d,e,f⟩:=o;have hm:=M.hi;have hc:ZX (Z0 (Zu Uq "worths" (Za 0))) (Zz 0) (λ_=>some true) (eCB strW (Zb (Za 0) eNil)) 1 [] [some (Qe ms ws lo hi),none]=some (.lst ((ws.map ZR).map D.str)):=Ve (xs:=ws.map D.int) rfl rfl (Zba b) (by rw [List.length_map,List.length_map];omega);have hl:ZE (Zb (eC (.str [115,117,109])) (Zb (eCB strW (Zb (Zu Up "low" (Za 0)) eNil)) (Zb (eCB strW (Zb (Zu Uo "high" (Za 0)) eNil)) eNil))) [some (Qe ms ws lo hi),none]=some (.lst [.str [115,117,109],.str (ZR lo),.str (ZR hi)]):=Xn (Zj rfl (Zj (Y8 rfl c (by omega)) (Zj (Y8 rfl (by omega) f) nil_of))) (show 3<=1000 by decide)
  exact Z9 rfl ((Zq (no rfl)).trans ((Zq (no rfl)).trans (Xm ((Xu (Xb rfl rfl)).trans (Ys ((Zs hl hc).trans (QY (by rw [List.length_map,List.length_map];show 3+_<=_;omega))))))))
 |turn mk ev at_=>
  obtain⟨a,b,c,d,e⟩:=o;exact Z9 rfl ((Zq (no rfl)).trans ((Zq (no rfl)).trans ((Zq (no rfl)).trans (Xm ((Xu (Xb rfl rfl)).trans (Ys (Xn (Zj rfl (Zj rfl (Zj (Y8 rfl (by omega) (by omega)) (Zj (Y8 rfl (by omega) (by omega)) nil_of)))) (show 4<=1000 by decide))))))))
 |alike mo=>
  obtain⟨a,b⟩:=o;exact Z9 rfl ((Zq (no rfl)).trans ((Zq (no rfl)).trans ((Zq (no rfl)).trans ((Zq (no rfl)).trans (Xm ((Xu (Xb rfl rfl)).trans (Ys (Xn (Zj rfl (Zj (Y8 rfl (by omega) (by omega)) nil_of)) (show 2<=1000 by decide)))))))))
theorem Zff{ms:List Nat}(M:Ms ms){r:R}(o:r.Ok ms):QR [r.val]=some (.lst (r.words.map D.str)):=by
 have ix0:∀(x:List Nat)(y:D)(xs:List D),eOp ixD (Za 0) (eC (.int 0)) [some (.tup (.str x::xs)),some y]=some (.str x):=λx y xs=>(Zs rfl rfl).trans (ix_tup (a:=0) rfl)
 have tst:∀(x w:List Nat)(xs:List D),xB (eOp eqD (eOp ixD (Za 0) (eC (.int 0))) (eC (.str w))) [some (.tup (.str x::xs)),none]=some (decide (x=w)):=λx w xs=>Yj ((Zs ((Zs rfl rfl).trans (ix_tup (a:=0) rfl)) rfl).trans (YA _ _))
 have no:∀(x w:List Nat)(xs:List D){φ:DL.Env->Option Out},x≠w->sIf (xB (eOp eqD (eOp ixD (Za 0) (eC (.int 0))) (eC (.str w)))) φ sNext [some (.tup (.str x::xs)),none]=some (.nx [some (.tup (.str x::xs)),none]):=λx w xs {φ} h=>(Yd ((tst x w xs).trans (by rw [decide_eq_false h]))).trans rfl
 have yes:∀(w:List Nat)(xs:List D){φ:DL.Env->Option Out},sIf (xB (eOp eqD (eOp ixD (Za 0) (eC (.int 0))) (eC (.str w)))) φ sNext [some (.tup (.str w::xs)),none]=φ [some (.tup (.str w::xs)),none]:=λw xs {φ}=>Xu ((tst w w xs).trans (by rw [decide_eq_true rfl]))
 have tail:∀(x:List Nat)(y:D)(ys zs:List D),Yx (Zz 0) (λ_=>some true) (eCB strW (Zb (Za 0) eNil)) [none] (y::ys)=some zs->zs.length<=1000->Zp (eOp Vd (ZE (Zb (eOp ixD (Za 0) (eC (.int 0))) eNil)) (ZX (Z0 (eSl (Za 0) (xP (eC (.int 1))) xNoP)) (Zz 0) (λ_=>some true) (eCB strW (Zb (Za 0) eNil)) 1 [])) [some (.tup (.str x::y::ys)),none]=some (.rt (.lst (.str x::zs))):=λx y ys zs h hl=>by
  refine Ys ((Zs (x:=.lst [.str x]) (y:=.lst zs) (Xn (Zj ((Zs rfl rfl).trans (ix_tup (a:=0) rfl)) nil_of) (show 1<=1000 by decide)) (Ve (xs:=y::ys) ?_ rfl h (by omega))).trans (QY (by show 1+_<=_;omega)));unfold Z0 eSl;have e:YE (D.str x::y::ys).length 0 (some 1)=1:=by unfold YE;simp
  have c:slD (.tup (.str x::y::ys)) (some 1) none=some (.tup (y::ys)):=by
   unfold slD;dsimp only;rw [e,if_neg (λz=>absurd z.1 (by decide)),show(some (1:Int))=some ((1:Nat):Int)from rfl,cut_from];rfl
  show(match slD (.tup (.str x::y::ys)) (some 1) none with
   |some (.lst xs)=>some xs
   |some (.tup xs)=>some xs
   |some (.str cs)=>some (cs.map λc=>D.str [c])
   |_=>none)=_
  rw [c]
 cases r with
 |gap mk lo mo=>
  obtain⟨a,b,c,d⟩:=o
  have e1:∀v,sIf (xB (Yr (eOp ixD (Za 0) (eC (.int 3))))) (Zt 1 (eCB strW (Zb (eOp ixD (Za 0) (eC (.int 3))) eNil))) sNext [some (.tup [.str [103,97,112],.str [mk],.int lo,Xz mo]),some (.str [97,110,121])]=some (.nx [some v,some (.str (moW mo))]) ↔ v = .tup [.str [103,97,112],.str [mk],.int lo,Xz mo]:=λv=>by
   have h3:eOp ixD (Za 0) (eC (.int 3)) [some (.tup [.str [103,97,112],.str [mk],.int lo,Xz mo]),some (.str [97,110,121])]=some (Xz mo):=(Zs rfl rfl).trans (ix_tup (a:=3) rfl);cases mo with
   |none=>
    rw [Yd (Yj (show Yr _ _=some (.bl false) by unfold Yr;rw [h3];rfl))];exact⟨λz=>by cases z;rfl,λz=>by subst z;rfl⟩
   |some m=>
    rw [Xu (Yj (show Yr _ _=some (.bl true) by unfold Yr;rw [h3];rfl)),Yc (Y8 h3 (by have:=d m rfl;omega) (d m rfl).2)];exact⟨λz=>by cases z;rfl,λz=>by subst z;rfl⟩
  refine Z9 rfl (Xm ((yes _ _).trans ((Zq (Yc rfl)).trans ((Zq ((e1 _).mpr rfl)).trans (Ys (Xn (Zj rfl (Zj ((Zs rfl rfl).trans (ix_tup (a:=1) rfl)) (Zj (Y8 ((Zs rfl rfl).trans (ix_tup (a:=2) rfl)) (by omega) c) (Zj rfl nil_of)))) (show 4<=1000 by decide)))))))
 |never w=>exact Z9 rfl ((Zq (no _ _ _ (by decide))).trans ((Zq (no _ _ _ (by decide))).trans (tail _ _ _ _ (Ua rfl rfl rfl) (show 1<=1000 by decide))))
 |sum ws lo hi=>
  obtain⟨a,b,c,d,e,f⟩:=o;have hm:=M.hi
  have hc:ZX (Z0 (eOp ixD (Za 0) (eC (.int 1)))) (Zz 0) (λ_=>some true) (eCB strW (Zb (Za 0) eNil)) 1 [] [some (.tup [.str [115,117,109],.tup (ws.map D.int),.int lo,.int hi]),none]=some (.lst ((ws.map ZR).map D.str)):=by
   refine Ve (xs:=ws.map D.int) ?_ rfl (Zba b) (by rw [List.length_map,List.length_map];omega);unfold Z0;rw [(Zs rfl rfl).trans (ix_tup (xs:=[.str [115,117,109],.tup (ws.map D.int),.int lo,.int hi]) (a:=1) rfl)]
  have hl:ZE (Zb (eC (.str [115,117,109])) (Zb (eCB strW (Zb (eOp ixD (Za 0) (eC (.int 2))) eNil)) (Zb (eCB strW (Zb (eOp ixD (Za 0) (eC (.int 3))) eNil)) eNil))) [some (.tup [.str [115,117,109],.tup (ws.map D.int),.int lo,.int hi]),none]=some (.lst [.str [115,117,109],.str (ZR lo),.str (ZR hi)]):=Xn (Zj rfl (Zj (Y8 ((Zs rfl rfl).trans (ix_tup (a:=2) rfl)) c (by omega)) (Zj (Y8 ((Zs rfl rfl).trans (ix_tup (a:=3) rfl)) (by omega) f) nil_of))) (show 3<=1000 by decide)
  exact Z9 rfl ((Zq (no _ _ _ (by decide))).trans (Xm ((yes _ _).trans (Ys ((Zs hl hc).trans (QY (by rw [List.length_map,List.length_map];show 3+_<=_;omega)))))))
 |turn mk ev at_=>
  obtain⟨a,b,c,d,e⟩:=o;exact Z9 rfl ((Zq (no _ _ _ (by decide))).trans ((Zq (no _ _ _ (by decide))).trans (tail _ _ _ _ (Ua rfl rfl (Ua rfl (Y8 rfl (by omega) (by omega)) (Ua rfl (Y8 rfl (by omega) (by omega)) rfl))) (show 3<=1000 by decide))))
 |alike mo=>
  obtain⟨a,b⟩:=o;exact Z9 rfl ((Zq (no _ _ _ (by decide))).trans ((Zq (no _ _ _ (by decide))).trans (tail _ _ _ _ (Ua rfl (Y8 rfl (by omega) (by omega)) rfl) (show 1<=1000 by decide))))
theorem Ut(n:Nat)(w:List Nat):V8 (n+1) [.str w,.str w]=some (.bl true):=by
 have e:eqD (.str w) (.str w)=some (.bl true):=by rw [YA,decide_eq_true rfl]
 exact Z9 rfl ((Zq ((Yd (Xb rfl rfl)).trans rfl)).trans ((Zq ((Yd (V9 rfl rfl)).trans rfl)).trans (Xm ((Xu (Xb rfl rfl)).trans (Ys (ZcH (Zc2 rfl rfl) ((Zs rfl rfl).trans e)))))))
theorem UH(n:Nat)(i:Int):V8 (n+1) [.int i,.int i]=some (.bl true):=by
 have e:eqD (.int i) (.int i)=some (.bl true):=by rw [Yz,decide_eq_true rfl]
 have nt:Yp (ZK QL (Za 0)) [some (.int i),some (.int i),none]=some (.bl true):=rfl;exact Z9 rfl ((Zq ((Yd (Xb rfl rfl)).trans rfl)).trans ((Zq ((Yd (V9 rfl rfl)).trans rfl)).trans ((Zq ((Yd (Xb rfl rfl)).trans rfl)).trans (Ys (ZcH (Zc2 rfl rfl) (ZcH nt ((Zs rfl rfl).trans e)))))))
theorem Zgb(n:Nat):V8 (n+1) [.non,.non]=some (.bl true):=
 Z9 rfl ((Zq ((Yd (Xb rfl rfl)).trans rfl)).trans (Xm ((Xu (Yj ((UG rfl).trans rfl))).trans (Ys ((UG rfl).trans rfl)))))
theorem QZ(n:Nat){xs:List D}(h:∀x∈xs,V8 n [x,x]=some (.bl true))(hl:xs.length<=1000):V8 (n+1) [.tup xs,.tup xs]=some (.bl true):=by
 obtain⟨δ',h1,v,rfl⟩:=ZaD (γ:=Zz 2) (φ:=sIf (ZQ (xB (Zm 2 (V8 n) [] (Zb (eOp ixD (Za 0) (Za 2)) (Zb (eOp ixD (Za 1) (Za 2)) eNil))))) (Zp (eC (.bl false))) sNext) (λδ=>∃v,δ=[some (.tup xs),some (.tup xs),v]) (Ym 0 1 ((xs.length:Int)).toNat) [some (.tup xs),some (.tup xs),none] ⟨_,rfl⟩ (by
  intro x hx δ ⟨v,e⟩;subst e;obtain⟨k,hk,rfl⟩:=ZcI hx;rw [show(0+(k:Int)*1)=k by omega];have hk':k<xs.length:=by omega
  have hg:xs[k]? = some xs[k]:=List.getElem?_eq_getElem hk';refine⟨_,rfl,[some (.tup xs),some (.tup xs),some (.int (k:Int))],?_,_,rfl⟩;exact(Yd (U5 (b:=true) (Yj ((Yk (Zj ((Zs rfl rfl).trans (ix_tup hg)) (Zj ((Zs rfl rfl).trans (ix_tup hg)) nil_of)) rfl).trans (h _ (List.getElem_mem hk')))))).trans rfl)
 have t:xOr (ZQ (xB (ZK JA (Za 0)))) (xB (eOp neD (eCB lenD (Zb (Za 0) eNil)) (eCB lenD (Zb (Za 1) eNil)))) [some (.tup xs),some (.tup xs),none]=some false:=Um (U5 (b:=true) (Xb rfl rfl)) (Yj ((Zs ((Xv (Zj rfl nil_of)).trans ZcJ) ((Xv (Zj rfl nil_of)).trans ZcJ)).trans (neN _ _ rfl)));exact Z9 rfl (Xm ((Xu (Xb rfl rfl)).trans ((Zq ((Yd t).trans rfl)).trans ((Zq (QE (Jx (Zj ((Xv (Zj rfl nil_of)).trans ZcJ) nil_of) (by omega) (by omega)) h1)).trans rfl))))
theorem Zgc{ms:List Nat}{r:R}(M:Ms ms)(o:r.Ok ms):m_QY [r.val,r.val]=some (.bl true):=by
 have hm:=M.hi;cases r with
 |gap mk lo mo=>
  refine QZ 7 ?_ (show 4<=1000 by decide);simp only [List.forall_mem_cons];refine⟨Ut 6 _,Ut 6 _,UH 6 _,?_,λ_ z=>nomatch z⟩;cases mo with
  |none=>exact Zgb 6
  |some m=>exact UH 6 m
 |never w=>
  refine QZ 7 ?_ (show 2<=1000 by decide);simp only [List.forall_mem_cons];exact⟨Ut 6 _,Ut 6 _,λ_ z=>nomatch z⟩
 |sum ws lo hi=>
  refine QZ 7 ?_ (show 4<=1000 by decide);simp only [List.forall_mem_cons];refine⟨Ut 6 _,QZ 6 (λx hx => ?_) (by rw [List.length_map,o.1];omega),UH 6 _,UH 6 _,λ_ z=>nomatch z⟩;obtain⟨i,_,rfl⟩:=List.mem_map.mp hx;exact UH 5 i
 |turn mk ev at_=>
  refine QZ 7 ?_ (show 4<=1000 by decide);simp only [List.forall_mem_cons];exact⟨Ut 6 _,Ut 6 _,UH 6 _,UH 6 _,λ_ z=>nomatch z⟩
 |alike mo=>
  refine QZ 7 ?_ (show 2<=1000 by decide);simp only [List.forall_mem_cons];exact⟨Ut 6 _,UH 6 _,λ_ z=>nomatch z⟩
end K09
namespace K09
open DL L2
def toD(p:Nat×List (List Nat)):D := .tup [.int (p.1:Nat),.lst (p.2.map D.str)]
noncomputable def roB:DL.Env->Option Out:=(Zi (Zt 4 (Zm 1 JD [] (Zb (Za 3) eNil)))
 (sIf (xB (eOp (ZZ λi j=>decide (j<i)) (eCB lenD (Zb (Za 4) eNil)) (eC (.int 0)))) (V1 1 (Z1 (Zb (Za 2) (Zb (Za 4) eNil)))) sNext))
theorem ZiS{pg v4:Option D}{acc:List D}{k:Nat}{row:List Nat}(hr:row.length<=1000000)(ha:acc.length<=1000000):∃v4',roB [pg,some (.lst acc),some (.int (k:Nat)),some (.str row),v4]=some (.nx [pg,some (.lst (acc++if YG row=[]then []else [toD (k,YG row)])),some (.int (k:Nat)),some (.str row),v4']):=by
 have h1:=words_in hr;refine⟨some (.lst ((YG row).map D.str)),?_⟩;have t:xB (eOp (ZZ λi j=>decide (j<i)) (eCB lenD (Zb (Za 4) eNil)) (eC (.int 0))) [pg,some (.lst acc),some (.int (k:Nat)),some (.str row),some (.lst ((YG row).map D.str))]=some (decide ((0:Int)<(((YG row).map D.str).length:Nat))):=Yj ((Zs ((Xv (Zj rfl nil_of)).trans len_lst) rfl).trans rfl);refine(Zq (Yc ((Yk (Zj rfl nil_of) rfl).trans h1))).trans ?_
 rw [List.length_map]at t
 by_cases h:YG row=[]
 · rw [if_pos h,List.append_nil]
   exact(Yd (t.trans (by rw [h];rfl))).trans rfl
 · rw [if_neg h]
   have hp:0<(YG row).length:=List.length_pos_iff.mpr h;exact(Xu (t.trans (by rw [decide_eq_true (by omega)]))).trans (Zea rfl (ZgC (Zj rfl (Zj rfl nil_of)) (show 2<=1000 by decide)) ha)
theorem ZgH{γ:D->DL.Env->Option DL.Env}{φ:DL.Env->Option Out}{x:D}{r:List D}{δ δ1 δ2:DL.Env}(h1:γ x δ=some δ1)(h2:φ δ1=some (.nx δ2)):Xp γ φ (x::r) δ=Xp γ φ r δ2:=by
 conv=>lhs;unfold Xp
 rw [h1];dsimp only;rw [h2]
theorem ZeC(pg:Option D):∀(ps:List (List Nat))(k:Nat)(acc:List D)(v2 v3 v4:Option D),(∀p∈ps,p.length<=1000000)->acc.length+ps.length<=1000000->∃v2' v3' v4',Xp (Uz 2 (Vb 2 (Vb 3 gsNil))) roB (XX k (ps.map D.str)) [pg,some (.lst acc),v2,v3,v4]=some (.nx [pg,some (.lst (acc++(XS k ps).map toD)),v2',v3',v4'])
 | [],k,acc,v2,v3,v4,_,_=>⟨v2,v3,v4,by rw [show(XS k []).map toD=[]from rfl,List.append_nil];rfl⟩
 |p::ps,k,acc,v2,v3,v4,h,hl=>by
  rw [List.length_cons]at hl;obtain⟨w4,e⟩:=ZiS (pg:=pg) (v4:=v4) (acc:=acc) (k:=k) (h p List.mem_cons_self) (by omega)
  have hlen:(acc++if YG p=[]then []else [toD (k,YG p)]).length<=acc.length+1:=by
   rw [List.length_append]
   split<;>simp
  obtain⟨a,b,c,ih⟩:=ZeC pg ps (k+1) (acc++if YG p=[]then []else [toD (k,YG p)]) (some (.int (k:Nat))) (some (.str p)) w4 (λq hq=>h q (List.mem_cons_of_mem _ hq)) (by omega);refine⟨a,b,c,?_⟩
  have ht:acc++(XS k (p::ps)).map toD=(acc++if YG p=[]then []else [toD (k,YG p)])++(XS (k+1) ps).map toD:=by
   rw [XS]
   split<;>simp
  rw [ht,<-ih,List.map_cons,XX];exact ZgH (δ1:=[pg,some (.lst acc),some (.int (k:Nat)),some (.str p),v4]) rfl e
theorem ZlI:Zjh=(Zi (Zt 1 (ZE eNil))
 (Zi (XO (QA (eBM splitD (Za 0) (Zb (eC (.str [10])) eNil))) (Uz 2 (Vb 2 (Vb 3 gsNil))) roB)
 (Zp (Za 1)))):=rfl
theorem Zbh(c:Nat):∀(a p:List Nat),p∈ZS c a->p.length<=a.length
 | [],p,h=>by
  have:p=[]:=by simpa [ZS]using h
  rw [this];exact Nat.le_refl _
 |x::a,p,h=>by
  rw [ZS]at h;have ih:=Zbh c a
  split at h
  · rcases List.mem_cons.mp h with rfl|h
    · exact Nat.zero_le _
    · have:=ih p h
      rw [List.length_cons];omega
  · cases hs:ZS c a with
    |nil=>exact(Zb7 c a hs).elim
    |cons q qs=>
     rw [hs]at h ih;rcases List.mem_cons.mp h with rfl|h
     · have:=ih q List.mem_cons_self
       rw [List.length_cons,List.length_cons];omega
     · have:=ih p (List.mem_cons_of_mem _ h)
       rw [List.length_cons];omega
theorem rows_of{page:List Nat}(hl:page.length<=900000):Zji [.str page]=some (.lst ((XS 1 (ZS 10 page)).map toD)):=by
 have hn:=Zas 10 page;obtain⟨a,b,c,e⟩:=ZeC (some (.str page)) (ZS 10 page) 1 [] none none none (λp hp=>Nat.le_trans (Zbh 10 page p hp) (by omega)) (by simp;omega);rw [List.nil_append]at e
 have hi:QA (eBM splitD (Za 0) (Zb (eC (.str [10])) eNil)) [some (.str page),some (.lst []),none,none,none]=some (XX 1 ((ZS 10 page).map D.str)):=by
  have:eBM splitD (Za 0) (Zb (eC (.str [10])) eNil) [some (.str page),some (.lst []),none,none,none]=some (.lst ((ZS 10 page).map D.str)):=by
   refine(QF rfl (Zj rfl nil_of)).trans ?_;exact if_pos (by rw [PySem.sizeLine_eq];omega)
  unfold QA;rw [this]
 refine Z9 rfl ((congrFun ZlI _).trans ((Zq (Yc (Xn nil_of (by decide)))).trans ((Zq (QE hi e)).trans rfl)))
theorem Zfg{R:List (List Nat)}(h:∀r∈R,10∉r):XS 1 (ZS 10 (ZM [10] R))=XS 1 R:=by
 by_cases hR:R=[]
 · subst hR
   decide
 · rw [Zbe 10 R hR h]
abbrev YW:List Nat:=[109,97,114,107,115]
theorem marks_told{ms:List Nat}(n:Nat)(xs:List D):Zjm [.lst (toD (n,[YW,ms])::xs)]=some (.str ms):=by
 have t1:xB (eOp eqD (eCB lenD (Zb (Za 0) eNil)) (eC (.int 0))) [some (.lst (toD (n,[YW,ms])::xs)),none]=some false:=by
  refine Yj ((Zs ((Xv (Zj rfl nil_of)).trans len_lst) rfl).trans ?_);rw [Yz,decide_eq_false (by rw [List.length_cons];omega)]
 have e1:eOp ixD (eOp ixD (Za 0) (eC (.int 0))) (eC (.int 1)) [some (.lst (toD (n,[YW,ms])::xs)),none]=some (.lst [.str YW,.str ms]):=(Zs ((Zs rfl rfl).trans (YV (a:=0) rfl)) rfl).trans (ix_tup (a:=1) rfl);have t2:xOr (xB (eOp neD (eOp ixD (Za 1) (eC (.int 0))) (eC (.str [109,97,114,107,115])))) (xB (eOp neD (eCB lenD (Zb (Za 1) eNil)) (eC (.int 2)))) [some (.lst (toD (n,[YW,ms])::xs)),some (.lst [.str YW,.str ms])]=some false:=Um (Yj ((Zs ((Zs rfl rfl).trans (YV (a:=0) rfl)) rfl).trans (neS _ _ rfl))) (Yj ((Zs ((Xv (Zj rfl nil_of)).trans len_lst) rfl).trans (neN _ _ rfl)))
 exact Z9 rfl ((Zq ((Yd t1).trans rfl)).trans ((Zq (Yc e1)).trans ((Zq ((Yd t2).trans rfl)).trans (Ys ((Zs rfl rfl).trans (YV (a:=1) rfl))))))
noncomputable def rrB:DL.Env->Option Out:=(Zi (Zt 6 (Zm 1 V7 [] (Zb (Za 5) eNil)))
 (Zi (sIf (xB (ZU (Za 6))) sNever sNext)
 (V1 3 (Za 6))))
noncomputable def mkC:DL.Env->Option D:=(Jr 0 lt_all (Zb (Za 1) eNil))
theorem ZlJ:Zjn=(Zi (Zt 1 (Zm 1 Zji [] (Zb (Za 0) eNil)))
 (Zi (Zt 2 (Zm 1 Zjm [] (Zb (Za 1) eNil)))
 (Zi (Zt 3 (ZE eNil))
 (Zi (XO (Z0 (eSl (Za 1) (xP (eC (.int 1))) xNoP)) (Uz 2 (Vb 4 (Vb 5 gsNil))) rrB)
 (Zp (ZT "All" 3 UD [] (Zb (Za 2) (Zb (ZX (Z0 (Za 3)) (Zz 0) (λ_=>some true) mkC 1 [2]) eNil)))))))):=rfl
theorem ZeD{ms:List Nat}(M:Ms ms)(v0 v1 v2:Option D):∀(rs:List R)(T:List (Nat×List (List Nat)))(acc:List D)(v4 v5 v6:Option D),(∀r∈rs,r.Ok ms)->T.map Prod.snd=rs.map R.words->acc.length+rs.length<=1000->∃ds v4' v5' v6',Xp (Uz 2 (Vb 4 (Vb 5 gsNil))) rrB (T.map toD) [v0,v1,v2,some (.lst acc),v4,v5,v6]=some (.nx [v0,v1,v2,some (.lst (acc++ds)),v4',v5',v6'])/\Yx (Zz 0) (λ_=>some true) mkC [none,some (.str ms)] ds=some (rs.map (R.obj ms))/\ds.length=rs.length
 | [],[],acc,v4,v5,v6,_,_,_=>⟨[],v4,v5,v6,by rw [List.append_nil];rfl,rfl,rfl⟩
 | [],_::_,_,_,_,_,_,h,_=>nomatch h
 |_::_,[],_,_,_,_,_,h,_=>nomatch h
 |r::rs,(n,ws)::T,acc,v4,v5,v6,ho,h,hl=>by
  rw [List.map_cons,List.map_cons]at h;obtain⟨h1,h2⟩:=List.cons.inj h;cases(show ws=r.words from h1);obtain⟨d,hd,K⟩:=maker M (ho r List.mem_cons_self);obtain⟨ds,a,b,c,e1,e2,e3⟩:=ZeD M v0 v1 v2 rs T (acc++[d]) (some (.int (n:Nat))) (some (.lst (r.words.map D.str))) (some d) (λx hx=>ho x (List.mem_cons_of_mem _ hx)) h2 (by rw [List.length_append,List.length_singleton];rw [List.length_cons]at hl;omega)
  refine⟨d::ds,a,b,c,?_,?_,by rw [List.length_cons,List.length_cons,e3]⟩
  · rw [show acc++d::ds=(acc++[d])++ds by simp,<-e1,List.map_cons]
    refine ZgH (δ1:=[v0,v1,v2,some (.lst acc),some (.int (n:Nat)),some (.lst (r.words.map D.str)),v6]) rfl ?_;exact(Zq (Yc ((Yk (Zj rfl nil_of) rfl).trans hd))).trans ((Zq ((Yd (V9 rfl K.nn)).trans rfl)).trans (Zea rfl rfl (by rw [List.length_cons]at hl;omega)))
  · exact Ua (δ1:=[some d,some (.str ms)]) rfl K.cl e2
abbrev Z7(ms:List Nat)(os:List D):D := .obj "All" ["marks", "rules"] [.str ms,.tup os]
theorem R.fm{ms:List Nat}(r:R){a:DL.Env->Option D}{δ:DL.Env}(h:a δ=some (r.obj ms)):Zu fc_marks "marks" a δ=some (.str ms):=by
 unfold Zu;rw [h];cases r<;>rfl
structure Rl(ms:List Nat)(o:D):Prop where
 al:Yi U9 o=some false
 fm:∀{a:DL.Env->Option D}{δ:DL.Env},a δ=some o->Zu fc_marks "marks" a δ=some (.str ms)
theorem R.rl{ms:List Nat}(r:R):Rl ms (r.obj ms):=⟨by cases r<;>rfl,λh=>R.fm r h⟩
theorem ZhD{e:DL.Env->Option D}{δ:DL.Env}{d:D}(h:e δ=some d):ZV e δ=some (.nx δ):=by
 unfold ZV;rw [h]
theorem ZhE{e:DL.Env->Option D}{δ:DL.Env}{b:Bool}(h:e δ=some (.bl b)):Yp e δ=some (.bl (!b)):=by
 unfold Yp;rw [h]
theorem ZbQ{ms:List Nat}(M:Ms ms){os:List D}(h:∀o∈os,Rl ms o)(hl:os.length<=6):UD [.obj "All" [] [],.str ms,.lst os]=some (Z7 ms os):=by
 have hr:=Qd M "All" rfl
 have b1:Yn 0 2 XR [] (Zb (Za 1) eNil) [some (.obj "All" [] []),some (.str ms),some (.lst os)]=some (.nx [some (.obj "All" ["marks"] [.str ms]),some (.str ms),some (.lst os)]):=by
  simp [hr,DL.run,DL.runI,Zi,sIf,Zp,YY,sNext,Zt,ZV,Z5,Yn,sNever,xB,bD,ZQ,Yl,xOr,Za,eC,eOp,Yh,eOr,Yp,eIf,ZU,Yr,Yq,YD,eUn,Yv,eNil,Zb,ZE,Z1,eCB,lenD,minD,YX,Zm,ZT,Z8,Zu,eSl,xP,xNoP,addD,subD,mulD,fdivD,modD,ZZ,ixD,isD,eBM,ZK,Yi,kind,plainKinds,Yz,YA,Y0,YQ,YR,YS,YT,YU,Y1,Y2,Y3,List.lookup,Yb,CMul,PySem.sizeLine_eq,List.replicate]
 have d1:eOp (ZZ λi j=>decide (i<=j)) (eCB lenD (Zb (Za 2) eNil)) (eC (.int 6)) [some (.obj "All" ["marks"] [.str ms]),some (.str ms),some (.lst os)]=some (.bl true):=by
  refine(Zs ((Xv (Zj rfl nil_of)).trans len_lst) rfl).trans ?_;show some (D.bl (decide ((os.length:Int)<=6)))=_;rw [decide_eq_true (by omega)]
 have d2:Yp (eCB (XN λbs=>bs.any id) (Zb (ZX (Z0 (Za 2)) (Zz 0) (λ_=>some true) (ZK U9 (Za 0)) 1 []) eNil)) [some (.obj "All" ["marks"] [.str ms]),some (.str ms),some (.lst os)]=some (.bl true):=by
  refine ZhE (b:=false) ((Xv (Zj (Ve (xs:=os) (ys:=os.map λ_=>D.bl false) rfl rfl ?_ (by rw [List.length_map];omega)) nil_of)).trans ?_)
  · exact V6 (λ_ => .bl false) os λx hx=>⟨_,rfl,Zc2 rfl ((h x hx).al)⟩
  unfold XN;dsimp only;have e:=ZaB (os.map λ_=>false);rw [List.map_map]at e;rw [show(os.map λ_=>D.bl false)=os.map (D.bl∘λ_=>false)from rfl,e];dsimp only
  congr 2
  rw [List.any_eq_false];intro b hb;obtain⟨_,_,rfl⟩:=List.mem_map.mp hb;exact Bool.false_ne_true
 have d3:eCB (XN λbs=>bs.all id) (Zb (ZX (Z0 (Za 2)) (Zz 0) (λ_=>some true) (eOp eqD (Zu fc_marks "marks" (Za 0)) (Za 1)) 1 [1]) eNil) [some (.obj "All" ["marks"] [.str ms]),some (.str ms),some (.lst os)]=some (.bl true):=by
  refine(Xv (Zj (Ve (xs:=os) (ys:=os.map λ_=>D.bl true) rfl rfl ?_ (by rw [List.length_map];omega)) nil_of)).trans ?_
  · exact V6 (λ_ => .bl true) os λx hx=>⟨_,rfl,(Zs (x:=.str ms) ((h x hx).fm rfl) rfl).trans ((YA _ _).trans (by rw [decide_eq_true rfl]))⟩
  unfold XN;dsimp only;rw [(Zec os).1];dsimp only;rw [(Zec os).2]
 have dm:∀{e:DL.Env->Option D}{w:List Nat}{δ:DL.Env},e δ=some (.bl true)->ZV (Zm 2 Xo [] (Zb e (Zb (eC (.str w)) eNil))) δ=some (.nx δ):=λ{e w δ} he=>ZhD ((Yk (Zj he (Zj rfl nil_of)) rfl).trans (demand w))
 have hf:JC [some (.obj "All" [] []),some (.str ms),some (.lst os)]=some (.nx [some (Z7 ms os),some (.str ms),some (.lst os)]):=(Zq b1).trans ((Zq (dm d1)).trans ((Zq (dm d2)).trans ((Zq (dm d3)).trans (by simp [Jy,V0,Z7,DL.run,DL.runI,Zi,sIf,Zp,YY,sNext,Zt,ZV,Z5,Yn,sNever,xB,bD,ZQ,Yl,xOr,Za,eC,eOp,Yh,eOr,Yp,eIf,ZU,Yr,Yq,YD,eUn,Yv,eNil,Zb,ZE,Z1,eCB,lenD,minD,YX,Zm,ZT,Z8,Zu,eSl,xP,xNoP,addD,subD,mulD,fdivD,modD,ZZ,ixD,isD,eBM,ZK,Yi,kind,plainKinds,Yz,YA,Y0,YQ,YR,YS,YT,YU,Y1,Y2,Y3,List.lookup,Yb,CMul,PySem.sizeLine_eq,List.replicate]))))
 show(match JC [some (.obj "All" [] []),some (.str ms),some (.lst os)]with|some (.nx δ)=>Za 0 δ|_=>none)=_;rw [hf];rfl
theorem read_rules{ms page:List Nat}(M:Ms ms){n:Nat}{T:List (Nat×List (List Nat))}{rs:List R}(hl:page.length<=900000)(ht:XS 1 (ZS 10 page)=(n,[YW,ms])::T)(hT:T.map Prod.snd=rs.map R.words)(ho:∀r∈rs,r.Ok ms)(h6:rs.length<=6):JF [.str page]=some (Z7 ms (rs.map (R.obj ms))):=by
 have e1:=rows_of hl;rw [ht,List.map_cons]at e1;have e2:=marks_told (ms:=ms) n (T.map toD);obtain⟨ds,a,b,c,f1,f2,f3⟩:=ZeD M (some (.str page)) (some (.lst (toD (n,[YW,ms])::T.map toD))) (some (.str ms)) rs T [] none none none ho hT (by simp;omega);rw [List.nil_append]at f1;have A:=ZbQ M (os:=rs.map (R.obj ms)) (λo hm=>let⟨r,_,q⟩:=List.mem_map.mp hm;q▸r.rl) (by rw [List.length_map];exact h6)
 have hd:∃rows,rows=toD (n,[YW,ms])::T.map toD/\rows.drop 1=T.map toD:=⟨_,rfl,rfl⟩
 obtain⟨rows,hr,hd⟩:=hd;rw [<-hr]at e1 e2 f1;have hi:Z0 (eSl (Za 1) (xP (eC (.int 1))) xNoP) [some (.str page),some (.lst rows),some (.str ms),some (.lst []),none,none,none]=some (T.map toD):=by rw [<-hd];exact Qf (Zee 1 rfl)
 clear hr;have hc:ZX (Z0 (Za 3)) (Zz 0) (λ_=>some true) mkC 1 [2] [some (.str page),some (.lst rows),some (.str ms),some (.lst ds),a,b,c]=some (.lst (rs.map (R.obj ms))):=Ve (Qf rfl) rfl f2 (by rw [List.length_map];omega);exact Z9 rfl ((congrFun ZlJ _).trans ((Zq (Yc ((Yk (Zj rfl nil_of) rfl).trans e1))).trans ((Zq (Yc ((Yk (Zj rfl nil_of) rfl).trans e2))).trans ((Zq (Yc (Xn nil_of (by decide)))).trans ((Zq (QE hi f1)).trans (Ys ((XQ (Zj rfl (Zj hc nil_of)) rfl).trans A)))))))
end K09
namespace K09
open DL L2
theorem ZeE{α:Type}(r:List α)(j:Nat):cutL r none (some (j:Int))=r.take j:=by
 unfold cutL YE;have e:¬((j:Int)<0):=by omega
 have e2:((j:Int)).toNat=j:=by omega
 simp only [e,if_false,e2,List.drop_zero,Nat.sub_zero]
 by_cases h:j<=r.length
 · rw [Nat.min_eq_left h]
 · rw [Nat.min_eq_right (by omega),List.take_of_length_le (Nat.le_refl _),List.take_of_length_le (by omega)]
noncomputable def wE:DL.Env->Option D:=(eOp ixD (Za 1) (eOp modD (eOp fdivD (Za 2) (eOp ixD (ZE (Zb (eC (.int 1)) (Zb (eC (.int 3)) (Zb (eC (.int 7)) (Zb (eC (.int 11)) (Zb (eC (.int 17)) (Zb (eC (.int 23)) eNil))))))) (Za 0))) (eCB lenD (Zb (Za 1) eNil))))
def prm:List Int:=[1,3,7,11,17,23]
def wF(ms:List Nat)(one:Int)(k:Nat):Nat:=(atI ms (one / prm.getD k 1 % ms.length)).getD 0
theorem ZiT:∀k:Fin 6,0<prm.getD k.val 1/\prm.getD k.val 1<30:=by decide
theorem Zig{ms:List Nat}(h2:2<=ms.length)(h4:ms.length<=4)(one:Int)(k:Nat)(hk:k<6):wE [some (.int (k:Nat)),some (.str ms),some (.int one)]=some (.str [wF ms one k])/\wF ms one k∈ms:=by
 obtain⟨p1,p2⟩:=ZiT ⟨k,hk⟩;dsimp only at p1 p2;obtain⟨z,h5,h6⟩:=ZgE (ms:=ms) (by omega) (one / prm.getD k 1);have e:wF ms one k=z:=by unfold wF;rw [h5];rfl
 rw [e];refine⟨?_,h6⟩
 have hp:ixD (.lst (prm.map D.int)) (.int (k:Int))=some (.int (prm.getD k 1)):=by
  refine YV ?_;rw [List.getElem?_map,List.getD_eq_getElem?_getD,List.getElem?_eq_getElem (show k<prm.length from hk)];rfl
 exact(Zs rfl ((Zs ((Zs (x:=.int one) rfl ((Zs (Xn (Zj rfl (Zj rfl (Zj rfl (Zj rfl (Zj rfl (Zj rfl nil_of)))))) (by decide)) rfl).trans hp)).trans (ZaC ⟨p1,by omega⟩)) ((Xv (Zj rfl nil_of)).trans (len_str (by omega)))).trans (U4 (by omega)))).trans (ZcG (by rw [PySem.sizeLine_eq];omega) h5)
def wD(ms:List Nat)(one:Int):D->D
 | .int k => .str [wF ms one k.toNat]
 |_ => .non
theorem ZiU{ms:List Nat}(h2:2<=ms.length)(h4:ms.length<=4)(one:Int)(n:Nat)(hn:n<=6):Yx (Zz 0) (λ_=>some true) wE [none,some (.str ms),some (.int one)] (Ym 0 1 n)=some ((List.range n).map λk => .str [wF ms one k]):=by
 rw [V6 (wD ms one)]
 · unfold Ym
   rw [List.map_map]
   congr 1
   refine List.map_congr_left λk _ => ?_
   have e:(0+(k:Int)*1)=k:=by omega
   show wD ms one (.int (0+(k:Int)*1))=_;rw [e];rfl
 · intro x hx
   obtain⟨i,hi,rfl⟩:=ZbP hx;have e:(0+(i:Int)*1)=i:=by omega
   rw [e];exact⟨_,rfl,(Zig h2 h4 one i (by omega)).1⟩
theorem ZhF:∃A0 A2 A3 A4,Zjq=Zi (Zt 5 (eOp ixD (Za 0) (eOp modD (Za 2) (eCB lenD (Zb (Za 0) eNil)))))
 (Zi (sIf (xB (eOp eqD (eOp modD (Za 1) (eC (.int 5))) (eC (.int 0)))) A0 sNext)
 (Zi (sIf (xB (eOp eqD (eOp modD (Za 1) (eC (.int 5))) (eC (.int 1)))) (Zi (Zt 7 (eOp addD (eC (.int 1)) (eOp modD (Za 3) (eC (.int 6)))))
   (Zp (Z1 (Zb (eC (.str [110,101,118,101,114])) (Zb (eBM joinD (eC (.str [])) (Zb (ZX (Xr (Zb (Za 7) eNil)) (Zz 0) (λ_=>some true) wE 1 [0,2]) eNil)) eNil))))) sNext)
 (Zi (sIf (xB (eOp eqD (eOp modD (Za 1) (eC (.int 5))) (eC (.int 2)))) A2 sNext)
 (Zi (sIf (xB (eOp eqD (eOp modD (Za 1) (eC (.int 5))) (eC (.int 3)))) A3 sNext) A4)))) /\
 (∀(ms:List Nat)(k o t u:Int)(mk:Nat),∃lo mo,0<=lo/\lo<=8/\(∀m,mo=some m->lo<=m/\m<=8)/\A0 [some (.str ms),some (.int k),some (.int o),some (.int t),some (.int u),some (.str [mk]),none,none,none,none]=some (.rt (((R.gap mk lo mo).val)))) /\
 (∀(ms:List Nat)(k o t u:Int)(mk:Nat),2<=ms.length->ms.length<=4->∃ws lo hi,ws.length=ms.length/\(∀w∈ws,-3<=w/\w<=3) /\ -8<=lo/\lo<=0/\0<=hi/\hi<=8/\A2 [some (.str ms),some (.int k),some (.int o),some (.int t),some (.int u),some (.str [mk]),none,none,none,none]=some (.rt (((R.sum ws lo hi).val)))) /\
 (∀(ms:List Nat)(k o t u:Int)(mk:Nat),∃ev at_,1<=ev/\ev<=6/\0<=at_/\at_<=ev-1/\A3 [some (.str ms),some (.int k),some (.int o),some (.int t),some (.int u),some (.str [mk]),none,none,none,none]=some (.rt (((R.turn mk ev at_).val)))) /\
 (∀(ms:List Nat)(k o t u:Int)(mk:Nat),∃mo,1<=mo/\mo<=6/\A4 [some (.str ms),some (.int k),some (.int o),some (.int t),some (.int u),some (.str [mk]),none,none,none,none]=some (.rt (((R.alike mo).val)))):=by
 refine⟨_,_,_,_,rfl,λms k o t u mk => ?_,λms k o t u mk h2 h4 => ?_,λms k o t u mk => ?_,λms k o t u mk => ?_⟩
 · obtain ⟨lo, l1, l2, l3⟩ : ∃ lo : Int, 0 <= lo /\ lo <= 8 /\ atI [D.int (t % 3), .int (t % 9)] (u % 2) = some (.int lo) := by
    rcases(show u % 2=0\/u % 2=1 by omega)with e|e
    · exact⟨t % 3,by omega,by omega,by rw [e];rfl⟩
    · exact⟨t % 9,by omega,by omega,by rw [e];rfl⟩
   have d2:Yb u 2:=⟨by omega,by omega⟩
   have d6:Yb u 6:=⟨by omega,by omega⟩
   by_cases hu:u / 2 % 3=0
   · exact⟨lo,none,l1,l2,λm hm=>(by cases hm),by simp [l3,hu,R.val,Zks,DL.run,DL.runI,Zi,sIf,Zp,YY,sNext,Zt,ZV,Z5,Yn,sNever,xB,bD,ZQ,Yl,xOr,Za,eC,eOp,Yh,eOr,Yp,eIf,ZU,Yr,Yq,YD,eUn,Yv,eNil,Zb,ZE,Z1,eCB,lenD,minD,YX,Zm,ZT,Z8,Zu,eSl,xP,xNoP,addD,subD,mulD,fdivD,modD,ZZ,ixD,isD,eBM,ZK,Yi,kind,plainKinds,Yz,YA,Y0,YQ,YR,YS,YT,YU,Y1,Y2,Y3,List.lookup,Yb,CMul,PySem.sizeLine_eq,List.replicate]⟩
   · refine⟨lo,some (if lo+u / 6 % 5<8 then lo+u / 6 % 5 else 8),l1,l2,λm hm => ?_,by simp [l3,hu,R.val,Zkt,DL.run,DL.runI,Zi,sIf,Zp,YY,sNext,Zt,ZV,Z5,Yn,sNever,xB,bD,ZQ,Yl,xOr,Za,eC,eOp,Yh,eOr,Yp,eIf,ZU,Yr,Yq,YD,eUn,Yv,eNil,Zb,ZE,Z1,eCB,lenD,minD,YX,Zm,ZT,Z8,Zu,eSl,xP,xNoP,addD,subD,mulD,fdivD,modD,ZZ,ixD,isD,eBM,ZK,Yi,kind,plainKinds,Yz,YA,Y0,YQ,YR,YS,YT,YU,Y1,Y2,Y3,List.lookup,Yb,CMul,PySem.sizeLine_eq,List.replicate]⟩
     cases hm
     split<;>omega
 · have hcut : ∀ a b c d : Int, cutL [D.int a, .int b, .int c, .int d] none (some (ms.length : Int)) = ([a, b, c, d].take ms.length).map D.int := fun a b c d => by
    rw [ZeE,List.map_take];rfl
   have hz:ms.length<=16777216:=by omega
   refine⟨[o % 7-3,t % 7-3,o / 7 % 7-3,t / 7 % 7-3].take ms.length,-(u % 9),u / 9 % 9,by rw [List.length_take];simp;omega,λw hw => ?_,by omega,by omega,by omega,by omega,?_⟩
   · have:=List.mem_of_mem_take hw
     simp only [List.mem_cons,List.mem_nil_iff,or_false]at this;omega
   · simp [slD,hcut,hz,V0,R.val,DL.run,DL.runI,Zi,sIf,Zp,YY,sNext,Zt,ZV,Z5,Yn,sNever,xB,bD,ZQ,Yl,xOr,Za,eC,eOp,Yh,eOr,Yp,eIf,ZU,Yr,Yq,YD,eUn,Yv,eNil,Zb,ZE,Z1,eCB,lenD,minD,YX,Zm,ZT,Z8,Zu,eSl,xP,xNoP,addD,subD,mulD,fdivD,modD,ZZ,ixD,isD,eBM,ZK,Yi,kind,plainKinds,Yz,YA,Y0,YQ,YR,YS,YT,YU,Y1,Y2,Y3,List.lookup,Yb,CMul,PySem.sizeLine_eq,List.replicate]
 · have h0:0<1+t % 6:=by omega
   have hb:=Int.emod_lt_of_pos u h0;have hb0:=Int.emod_nonneg u (show 1+t % 6≠0 by omega);exact⟨1+t % 6,u % (1+t % 6),by omega,by omega,hb0,by omega,by simp [h0,R.val,DL.run,DL.runI,Zi,sIf,Zp,YY,sNext,Zt,ZV,Z5,Yn,sNever,xB,bD,ZQ,Yl,xOr,Za,eC,eOp,Yh,eOr,Yp,eIf,ZU,Yr,Yq,YD,eUn,Yv,eNil,Zb,ZE,Z1,eCB,lenD,minD,YX,Zm,ZT,Z8,Zu,eSl,xP,xNoP,addD,subD,mulD,fdivD,modD,ZZ,ixD,isD,eBM,ZK,Yi,kind,plainKinds,Yz,YA,Y0,YQ,YR,YS,YT,YU,Y1,Y2,Y3,List.lookup,Yb,CMul,PySem.sizeLine_eq,List.replicate]⟩
 · exact⟨1+u % 6,by omega,by omega,by simp [R.val,DL.run,DL.runI,Zi,sIf,Zp,YY,sNext,Zt,ZV,Z5,Yn,sNever,xB,bD,ZQ,Yl,xOr,Za,eC,eOp,Yh,eOr,Yp,eIf,ZU,Yr,Yq,YD,eUn,Yv,eNil,Zb,ZE,Z1,eCB,lenD,minD,YX,Zm,ZT,Z8,Zu,eSl,xP,xNoP,addD,subD,mulD,fdivD,modD,ZZ,ixD,isD,eBM,ZK,Yi,kind,plainKinds,Yz,YA,Y0,YQ,YR,YS,YT,YU,Y1,Y2,Y3,List.lookup,Yb,CMul,PySem.sizeLine_eq,List.replicate]⟩
theorem ZhG{ms:List Nat}(h2:2<=ms.length)(h4:ms.length<=4)(k o t u:Int):∃r:R,r.Ok ms/\Zjr [.str ms,.int k,.int o,.int t,.int u]=some r.val:=by
 obtain⟨A0,A2,A3,A4,e,a0,a2,a3,a4⟩:=ZhF;obtain⟨mk,hm,hmm⟩:=ZgE (ms:=ms) (by omega) o
 have s1:Zt 5 (eOp ixD (Za 0) (eOp modD (Za 2) (eCB lenD (Zb (Za 0) eNil)))) [some (.str ms),some (.int k),some (.int o),some (.int t),some (.int u),none,none,none,none,none]=some (.nx [some (.str ms),some (.int k),some (.int o),some (.int t),some (.int u),some (.str [mk]),none,none,none,none]):=
  Yc ((Zs rfl ((Zs (x:=.int o) rfl ((Xv (Zj rfl nil_of)).trans (len_str (by omega)))).trans (U4 (by omega)))).trans (ZcG (by rw [PySem.sizeLine_eq];omega) hm))
 have cd:∀j:Int,eOp eqD (eOp modD (Za 1) (eC (.int 5))) (eC (.int j)) [some (.str ms),some (.int k),some (.int o),some (.int t),some (.int u),some (.str [mk]),none,none,none,none]=some (.bl (decide (k % 5=j))):=λj=>(Zs ((Zs (x:=.int k) (y:=.int 5) rfl rfl).trans (U4 (by decide))) rfl).trans (Yz _ _)
 have no:∀{j:Int}{A:DL.Env->Option Out},k % 5≠j->sIf (xB (eOp eqD (eOp modD (Za 1) (eC (.int 5))) (eC (.int j)))) A sNext [some (.str ms),some (.int k),some (.int o),some (.int t),some (.int u),some (.str [mk]),none,none,none,none]=some (.nx [some (.str ms),some (.int k),some (.int o),some (.int t),some (.int u),some (.str [mk]),none,none,none,none]):=λ{j A} h=>(Yd (Yj ((cd j).trans (by rw [decide_eq_false h])))).trans rfl
 have yes:∀{j:Int}{A:DL.Env->Option Out}{d:D},k % 5=j->A [some (.str ms),some (.int k),some (.int o),some (.int t),some (.int u),some (.str [mk]),none,none,none,none]=some (.rt d)->sIf (xB (eOp eqD (eOp modD (Za 1) (eC (.int 5))) (eC (.int j)))) A sNext [some (.str ms),some (.int k),some (.int o),some (.int t),some (.int u),some (.str [mk]),none,none,none,none]=some (.rt d):=λ{j A d} h ha=>(Xu (Yj ((cd j).trans (by rw [decide_eq_true h])))).trans ha
 rcases(show k % 5=0\/k % 5=1\/k % 5=2\/k % 5=3\/k % 5=4 by omega)with hk|hk|hk|hk|hk
 · obtain⟨lo,mo,l1,l2,l3,l4⟩:=a0 ms k o t u mk
   exact⟨.gap mk lo mo,⟨hmm,l1,l2,l3⟩,Z9 rfl ((congrFun e _).trans ((Zq s1).trans (Xm (yes hk l4))))⟩
 · obtain⟨n,hn⟩:=Zeb (show 0<=1+t % 6 by omega)
   have hn6:1<=n/\n<=6:=by omega
   have hw:=ZiU h2 h4 o n hn6.2;have hj:=Zcg (wF ms o) (List.range n) (by rw [List.length_range,PySem.sizeLine_eq];omega);refine⟨.never ((List.range n).map (wF ms o)),⟨by simp;omega,by simp;omega,λc hc => ?_⟩,Z9 rfl ((congrFun e _).trans ((Zq s1).trans ((Zq (no (by omega))).trans (Xm (yes hk ?_)))))⟩
   · obtain⟨i,hi,rfl⟩:=List.mem_map.mp hc
     exact(Zig h2 h4 o i (by have:=List.mem_range.mp hi;omega)).2
   · refine(Zq (Yc (d:=.int (n:Int)) ?_)).trans (Ys ((ZgC (Zj rfl (Zj ((QF rfl (Zj (Ve (Jx (j:=(n:Int)) (Zj rfl nil_of) (by omega) (by omega)) rfl (by rw [Int.toNat_natCast];exact hw) (by rw [List.length_map,List.length_range];omega)) nil_of)).trans hj) nil_of)) (by simp)).trans rfl))
     exact(Zs (x:=.int 1) rfl ((Zs (x:=.int t) (y:=.int 6) rfl rfl).trans (U4 (by decide)))).trans (by rw [<-hn];rfl)
 · obtain⟨ws,lo,hi,q1,q2,q3,q4,q5,q6,q7⟩:=a2 ms k o t u mk h2 h4
   exact⟨.sum ws lo hi,⟨q1,q2,q3,q4,q5,q6⟩,Z9 rfl ((congrFun e _).trans ((Zq s1).trans ((Zq (no (by omega))).trans ((Zq (no (by omega))).trans (Xm (yes hk q7))))))⟩
 · obtain⟨ev,at_,q1,q2,q3,q4,q5⟩:=a3 ms k o t u mk
   exact⟨.turn mk ev at_,⟨hmm,q1,q2,q3,q4⟩,Z9 rfl ((congrFun e _).trans ((Zq s1).trans ((Zq (no (by omega))).trans ((Zq (no (by omega))).trans ((Zq (no (by omega))).trans (Xm (yes hk q5)))))))⟩
 · obtain⟨mo,q1,q2,q3⟩:=a4 ms k o t u mk
   exact⟨.alike mo,⟨q1,q2⟩,Z9 rfl ((congrFun e _).trans ((Zq s1).trans ((Zq (no (by omega))).trans ((Zq (no (by omega))).trans ((Zq (no (by omega))).trans ((Zq (no (by omega))).trans q3))))))⟩
noncomputable def clE:DL.Env->Option D:=(Zm 2 X1 [] (Zb (Za 1) (Zb (eOp addD (eOp addD (eC (.int 2)) (eOp mulD (eC (.int 3)) (Za 2))) (Za 0)) eNil)))
def clF(ns:List Int)(k:Nat):D->D
 | .int s => .int (ns.getD (2+3*k+s.toNat) 0)
 |_ => .non
theorem Zgd(ns:List Int)(k:Nat)(x2 x3 x4:Option D):∃a b c:Int,ZX (Xr (Zb (eC (.int 3)) eNil)) (Zz 0) (λ_=>some true) clE 1 [0,3] [some (.lst (ns.map D.int)),x2,x3,some (.int (k:Nat)),x4]=some (.lst [.int a,.int b,.int c]):=by
 have hc:Yx (Zz 0) (λ_=>some true) clE [none,some (.lst (ns.map D.int)),some (.int (k:Nat))] (Ym 0 1 3)=some ((Ym 0 1 3).map (clF ns k)):=V6 (clF ns k) _ λx hx=>by
  obtain⟨i,hi,rfl⟩:=ZbP hx;have e:(0+(i:Int)*1)=i:=by omega
  rw [e];refine⟨_,rfl,(Yk (Zj rfl (Zj ((Zs (x:=.int (2+3*(k:Int))) (y:=.int (i:Int)) ((Zs (x:=.int 2) (y:=.int (3*(k:Int))) rfl ((Zs (x:=.int 3) (y:=.int (k:Int)) rfl rfl).trans (Zdu (Zbz (by decide) (by decide))))).trans rfl) rfl).trans rfl) nil_of)) rfl).trans ?_⟩;have:=ZcK ns (2+3*k+i);rw [show((2+3*k+i:Nat):Int)=2+3*(k:Int)+i by omega]at this
  exact this
 exact⟨_,_,_,Ve (Jx (j:=3) (Zj rfl nil_of) (by decide) (by decide)) rfl hc (show 3<=1000000 by decide)⟩
noncomputable def rsB:DL.Env->Option Out:=(Zi (Zt 4 (ZX (Xr (Zb (eC (.int 3)) eNil)) (Zz 0) (λ_=>some true) clE 1 [0,3]))
 (V1 2 (Zm 5 Zjr [] (Zb (Za 1) (Zb (eOp addD (eOp fdivD (eOp ixD (Za 4) (eC (.int 1))) (eC (.int 60))) (eOp fdivD (eOp ixD (Za 4) (eC (.int 2))) (eC (.int 90)))) (Zb (eOp ixD (Za 4) (eC (.int 0))) (Zb (eOp ixD (Za 4) (eC (.int 1))) (Zb (eOp ixD (Za 4) (eC (.int 2))) eNil))))))))
theorem ZlK:Zjt=(Zi (Zt 2 (ZE eNil)) (Zi (XO (Xr (Zb (eOp modD (Zm 2 X1 [] (Zb (Za 0) (Zb (eC (.int 1)) eNil))) (eC (.int 7))) eNil)) (Zz 3) rsB) (Zp (Za 2)))):=rfl
theorem Zge{ms:List Nat}(h2:2<=ms.length)(h4:ms.length<=4)(ns:List Int):∃qs:List R,(∀r∈qs,r.Ok ms)/\qs.length<=6/\Zju [.lst (ns.map D.int),.str ms]=some (.lst (qs.map R.val)):=by
 obtain⟨n,hn⟩:=Zeb (show 0<=ns.getD 1 0 % 7 by omega);have hn6:n<=6:=by omega
 obtain⟨δ',h1,qs,hp,hl,v3,v4,rfl⟩:=Zdt (γ:=Zz 3) (φ:=rsB) (λk δ=>∃qs:List R,(∀r∈qs,r.Ok ms)/\qs.length=k/\∃v3 v4:Option D,δ=[some (.lst (ns.map D.int)),some (.str ms),some (.lst (qs.map R.val)),v3,v4]) (Ym 0 1 n) 0 [some (.lst (ns.map D.int)),some (.str ms),some (.lst []),none,none] ⟨[],λp hp=>(by cases hp),rfl,none,none,rfl⟩ (by
  rintro j x δ hx ⟨qs,hp,hl,v3,v4,rfl⟩
  obtain⟨hj,rfl⟩:=Zhv hx;obtain⟨a,b,c,hc⟩:=Zgd ns j (some (.str ms)) (some (.lst (qs.map R.val))) v4;obtain⟨q,hr,hd⟩:=ZhG h2 h4 (b / 60+c / 90) a b c
  have b1:rsB [some (.lst (ns.map D.int)),some (.str ms),some (.lst (qs.map R.val)),some (.int (j:Nat)),v4]=some (.nx [some (.lst (ns.map D.int)),some (.str ms),some (.lst ((qs.map R.val)++[q.val])),some (.int (j:Nat)),some (.lst [.int a,.int b,.int c])]):=by
   refine(Zq (Yc hc)).trans (Zea (i:=2) (xs:=qs.map R.val) (d:=q.val) rfl ?_ (by rw [List.length_map];omega));refine(Yk (ds:=[.str ms,.int (b / 60+c / 90),.int a,.int b,.int c]) (Zj rfl (Zj ?_ (Zj ((Zs rfl rfl).trans (YV (a:=0) rfl)) (Zj ((Zs rfl rfl).trans (YV (a:=1) rfl)) (Zj ((Zs rfl rfl).trans (YV (a:=2) rfl)) nil_of))))) rfl).trans hd;exact(Zs ((Zs (x:=.int b) ((Zs rfl rfl).trans (YV (a:=1) rfl)) rfl).trans (ZaC ⟨by decide,by decide⟩)) ((Zs (x:=.int c) ((Zs rfl rfl).trans (YV (a:=2) rfl)) rfl).trans (ZaC ⟨by decide,by decide⟩))).trans rfl
  refine⟨[some (.lst (ns.map D.int)),some (.str ms),some (.lst (qs.map R.val)),some (.int (j:Nat)),v4],rfl,_,b1,qs++[q],λp hp' => ?_,by rw [List.length_append,hl];rfl,some (.int (j:Nat)),some (.lst [.int a,.int b,.int c]),?_⟩
  · rcases List.mem_append.mp hp' with h|h
    · exact hp p h
    · cases List.mem_singleton.mp h
      exact hr
  · rw [List.map_append];rfl)
 refine⟨qs,hp,by rw [hl,Zhw];omega,Z9 rfl ((congrFun ZlK _).trans ((Zq (Yc (Xn nil_of (by decide)))).trans ((Zq (QE ?_ h1)).trans (Ys rfl))))⟩;exact(Jx (j:=(n:Int)) (Zj ((Zs ((Yk (Zj rfl (Zj rfl nil_of)) rfl).trans (ZcK ns 1)) rfl).trans ((U4 (by decide)).trans (by rw [hn]))) nil_of) (by omega) (by omega)).trans (by rw [Int.toNat_natCast])
end K09
namespace K09
open DL L2
theorem ZaF(c:Nat):∀l:List (List Nat),(ZM [c] l).length<=(l.map List.length).sum+l.length
 | []=>Nat.le_refl _
 | [x]=>by simp [ZM]
 |x::y::r=>by
  have:=ZaF c (y::r);rw [ZM,List.length_append,List.length_append];simp only [List.map_cons,List.sum_cons,List.length_cons,List.length_nil]at this ⊢;omega
theorem JZ{m:Nat}:∀{l:List (List Nat)},(∀r∈l,r.length<=m)->(l.map List.length).sum<=m*l.length
 | [],_=>Nat.le_refl _
 |x::l,h=>by
  have ih:=JZ (l:=l) λr hr=>h r (List.mem_cons_of_mem _ hr)
  have:=h x List.mem_cons_self;rw [List.map_cons,List.sum_cons,List.length_cons,Nat.mul_add];omega
theorem Zdz{c:Nat}:∀{l:List (List Nat)}{s:List Nat},c∈ZM s l->c∈s\/∃w∈l,c∈w
 | [],_,h=>nomatch h
 | [x],_,h => .inr ⟨x,List.mem_cons_self,h⟩
 |x::y::r,s,h=>by
  rw [ZM]at h;rcases List.mem_append.mp h with h|h
  · rcases List.mem_append.mp h with h|h
    · exact .inr ⟨x,List.mem_cons_self,h⟩
    · exact .inl h
  · rcases Zdz h with z|⟨w,h1,h2⟩
    · exact .inl z
    · exact .inr ⟨w,List.mem_cons_of_mem _ h1,h2⟩
theorem ZbD{ws:List (List Nat)}(h:∀w∈ws,Good w):Plain (ZM [32] ws):=λc hc=>by
 rcases Zdz hc with z|⟨w,h1,h2⟩
 · rw [List.mem_singleton.mp z];decide
 · exact(h w h1).plain c h2
theorem Zbi:∀{ws:List (List Nat)},(∀w∈ws,Good w)->Vq (ZM [32] ws)=ws
 | [],_=>ZdZ
 | [x],h=>Zbg (h x List.mem_cons_self).1 (h x List.mem_cons_self).no32
 |x::y::r,h=>by
  have g:=h x List.mem_cons_self;rw [ZM,List.append_assoc];show Vq (x++32::ZM [32] (y::r))=_;rw [ZdY,Zbi λw hw=>h w (List.mem_cons_of_mem _ hw),Zbg g.1 g.no32];rfl
theorem ZaQ{ws:List (List Nat)}(h:∀w∈ws,Good w):YG (ZM [32] ws)=ws:=by
 unfold YG;rw [ZcU (ZbD h),Zbi h]
theorem ZbR:∀(rows:List (List Nat))(n:Nat),(XS n rows).map Prod.snd=(rows.map YG).filter λw => !decide (w=[])
 | [],n=>rfl
 |r::rows,n=>by
  rw [XS,List.map_cons]
  by_cases h:YG r=[]
  · rw [if_pos h,List.filter_cons_of_neg (by simp [h])]
    exact ZbR rows (n+1)
  · rw [if_neg h,List.filter_cons_of_pos (by simp [h]),List.map_cons,ZbR rows (n+1)]
def said(rows:List (List Nat)):List (List (List Nat)):=(rows.map YG).filter λw => !decide (w=[])
theorem ZdA(a b:List (List Nat)):said (a++b)=said a++said b:=by
 unfold said;rw [List.map_append,List.filter_append]
theorem ZdB{r:List Nat}{ws:List (List Nat)}(h:YG r=ws)(hn:ws≠[]):said [r]=[ws]:=by
 unfold said;rw [List.map_cons,h,List.map_nil,List.filter_cons_of_pos (by simp [hn])];rfl
def Fit(rows:List (List Nat)):Prop:=∀r∈rows,10∉r/\r.length<=300
theorem Fit.app{a b:List (List Nat)}(h1:Fit a)(h2:Fit b):Fit (a++b):=λr hr=>(List.mem_append.mp hr).elim (h1 r) (h2 r)
theorem Fit.one{r:List Nat}(h1:10∉r)(h2:r.length<=300):Fit [r]:=λx hx=>by rw [List.mem_singleton.mp hx];exact⟨h1,h2⟩
theorem ZaY{c:Nat}{l:List (List Nat)}{m n:Nat}(h:∀r∈l,r.length<=m)(hn:l.length<=n)(hb:(m+1)*n<=100000):joinD [c] [.lst (l.map D.str)]=some (.str (ZM [c] l)):=by
 unfold joinD;dsimp only;rw [ZfO];dsimp only;have:=JZ h;have h3:(m+1)*l.length<=(m+1)*n:=Nat.mul_le_mul_left _ hn;rw [Nat.add_mul,Nat.one_mul]at h3;rw [if_pos (by rw [PySem.sizeLine_eq,List.length_singleton];omega)]
theorem Zfh{ms:List Nat}(M:Ms ms){rows:List (List Nat)}{rs:List R}(hf:Fit rows)(hn:rows.length<=100)(hs:said rows=[YW,ms]::rs.map R.words)(ho:∀r∈rs,r.Ok ms)(h6:rs.length<=6):JF [.str (ZM [10] rows)]=some (Z7 ms (rs.map (R.obj ms))):=by
 have h1:=ZbR rows 1;have h2:(XS 1 rows).map Prod.snd=[YW,ms]::rs.map R.words:=h1.trans hs;have h3:=ZaF 10 rows;have h4:=JZ (m:=300) λr hr=>(hf r hr).2
 have h5:=Zfg λr hr=>(hf r hr).1
 cases ht:XS 1 rows with
 |nil=>rw [ht]at h2;cases h2
 |cons p T=>
  rw [ht,List.map_cons]at h2;obtain⟨a,b⟩:=List.cons.inj h2;obtain⟨n,ws⟩:=p;cases(show ws=[YW,ms]from a);exact read_rules M (by omega) (h5.trans ht) b ho h6
theorem rule_row{ms:List Nat}(M:Ms ms){r:R}(o:r.Ok ms):Vn [r.obj ms]=some (.str (ZM [32] r.words)):=by
 obtain⟨g1,g2⟩:=R.good M o;exact Z9 rfl (Ys ((QF rfl (Zj ((Yk (Zj rfl nil_of) rfl).trans (rule_words M o)) nil_of)).trans (ZaY (m:=8) (n:=7) (λw hw=>(g2 w hw).2) g1 (by decide))))
theorem ZhH{ms:List Nat}(M:Ms ms){r:R}(o:r.Ok ms):(ZM [32] r.words).length<=70:=by
 obtain⟨g1,g2⟩:=R.good M o;have h1:=ZaF 32 r.words;have h2:=JZ (m:=8) λw hw=>(g2 w hw).2
 omega
theorem Zau{ms:List Nat}{os:List D}{a:DL.Env->Option D}{δ:DL.Env}(h:a δ=some (Z7 ms os)):Z8 "rules_told" Vo a eNil δ=some (.lst os):=by
 refine(ZhA h nil_of).trans ((Zf9 (n:=1) (mm:=Zj5) (by decide) rfl rfl).trans ?_);exact Z9 rfl (Ys ((Xv (Zj rfl nil_of)).trans rfl))
def Xc(ms:List Nat)(rs:List R):List (List Nat):=ZM [32] [YW,ms]::rs.map λr=>ZM [32] r.words
theorem ZhI{ms:List Nat}(M:Ms ms):∀w∈[YW,ms],Good w/\w.length<=8:=by
 have:=M.lo;have:=M.hi;simp only [List.forall_mem_cons];exact⟨⟨⟨by decide,by decide⟩,by decide⟩,⟨ZcL M (by omega) λ_ h=>h,by omega⟩,λ_ z=>nomatch z⟩
theorem ZdC{ms:List Nat}(M:Ms ms){rs:List R}(ho:∀r∈rs,r.Ok ms):Fit (Xc ms rs)/\said (Xc ms rs)=[YW,ms]::rs.map R.words:=by
 have hm:=M.hi;have gm:=ZhI M;have no10:∀{ws:List (List Nat)},(∀w∈ws,Good w)->10∉ZM [32] ws:=λh z=>(ZbD h 10 z).2 rfl
 constructor
 · refine Fit.app (a:=[ZM [32] [YW,ms]]) (Fit.one (no10 λw hw=>(gm w hw).1) ?_) λr hr => ?_
   · have h1:=ZaF 32 [YW,ms]
     have h2:=JZ (m:=8) λw hw=>(gm w hw).2
     simp only [List.length_cons,List.length_nil]at h1 h2;omega
   · obtain⟨q,hq,rfl⟩:=List.mem_map.mp hr
     have:=ZhH M (ho q hq);exact⟨no10 λw hw=>((R.good M (ho q hq)).2 w hw).1,by omega⟩
 · show said ([ZM [32] [YW,ms]]++rs.map λr=>ZM [32] r.words)=_
   rw [ZdA,ZdB (ZaQ λw hw=>(gm w hw).1) (λz=>nomatch z)]
   have key:∀qs:List R,(∀r∈qs,r.Ok ms)->said (qs.map λr=>ZM [32] r.words)=qs.map R.words:=by
    intro qs
    induction qs with
    |nil=>exact λ_=>rfl
    |cons r qs ih=>
     intro h;have h1:=R.good M (h r List.mem_cons_self);show said ([ZM [32] r.words]++qs.map λr=>ZM [32] r.words)=_;rw [ZdA,ZdB (ZaQ λw hw=>(h1.2 w hw).1) R.ne,ih λx hx=>h x (List.mem_cons_of_mem _ hx)];rfl
   rw [key rs ho];rfl
theorem rules_page{ms:List Nat}(M:Ms ms){rs:List R}(ho:∀r∈rs,r.Ok ms)(h6:rs.length<=6):Qb [Z7 ms (rs.map (R.obj ms))]=some (.str (ZM [10] (Xc ms rs))):=by
 obtain⟨f1,_⟩:=ZdC M ho;have hm:=M.hi
 have hc:Yx (Zz 0) (λ_=>some true) (Zm 1 Vn [] (Zb (Za 0) eNil)) [none] (rs.map (R.obj ms))=some (rs.map λr=>D.str (ZM [32] r.words)):=by
  have key:∀qs:List R,(∀r∈qs,r.Ok ms)->Yx (Zz 0) (λ_=>some true) (Zm 1 Vn [] (Zb (Za 0) eNil)) [none] (qs.map (R.obj ms))=some (qs.map λr=>D.str (ZM [32] r.words)):=by
   intro qs
   induction qs with
   |nil=>exact λ_=>rfl
   |cons q qs ih=>
    intro h;exact Ua rfl ((Yk (Zj rfl nil_of) rfl).trans (rule_row M (h q List.mem_cons_self))) (ih λx hx=>h x (List.mem_cons_of_mem _ hx))
  exact key rs ho
 have e1:ZX (Z0 (Z8 "rules_told" Vo (Za 0) eNil)) (Zz 0) (λ_=>some true) (Zm 1 Vn [] (Zb (Za 0) eNil)) 1 [] [some (Z7 ms (rs.map (R.obj ms))),none]=some (.lst (rs.map λr=>D.str (ZM [32] r.words))):=Ve (Qf (Zau rfl)) rfl hc (by rw [List.length_map];omega)
 have e0:ZE (Zb (eOp addD (eC (.str [109,97,114,107,115,32])) (Zu fc_marks "marks" (Za 0))) eNil) [some (Z7 ms (rs.map (R.obj ms))),none]=some (.lst [.str (ZM [32] [YW,ms])]):=Xn (Zj ((Zs rfl rfl).trans (by
  show(if [109,97,114,107,115,32].length+ms.length<=PySem.sizeLine then some (D.str ([109,97,114,107,115,32]++ms))else none)=_;rw [if_pos (by rw [PySem.sizeLine_eq];show 6+ms.length<=_;omega)];rfl)) nil_of) (show 1<=1000 by decide)
 have e2:=QY (a:=[.str (ZM [32] [YW,ms])]) (b:=rs.map λr=>D.str (ZM [32] r.words)) (by rw [List.length_map];show 1+_<=_;omega)
 have e3:[.str (ZM [32] [YW,ms])]++rs.map (λr=>D.str (ZM [32] r.words))=(Xc ms rs).map D.str:=by
  unfold Xc;rw [List.map_cons,List.map_map];rfl
 rw [e3]at e2;have hj:=ZaY (c:=10) (l:=Xc ms rs) (m:=300) (n:=7) (λr hr=>(f1 r hr).2) (by unfold Xc;rw [List.length_cons,List.length_map];omega) (by decide);exact Z9 rfl ((Zq (Yc ((Zs e0 e1).trans e2))).trans (Ys ((QF rfl (Zj rfl nil_of)).trans hj)))
end K09
namespace K09
open DL L2
theorem Zfi{χ ψ:DL.Env->Option String}{φ:DL.Env->Option Out}{δ:DL.Env}{c:String}(h:χ δ=some c):XZ χ φ ψ δ=some c:=by
 unfold XZ;rw [h]
theorem XT{χ ψ:DL.Env->Option String}{φ:DL.Env->Option Out}{δ δ1:DL.Env}(h:χ δ=none)(h2:φ δ=some (.nx δ1)):XZ χ φ ψ δ=ψ δ1:=by
 unfold XZ;rw [h,h2]
theorem J0{χ ψ:DL.Env->Option String}{φ:DL.Env->Option Out}{δ:DL.Env}{d:D}(h:χ δ=none)(h2:φ δ=some (.rt d)):XZ χ φ ψ δ=none:=by
 unfold XZ;rw [h,h2]
theorem Qg{n:Nat}{χ:DL.Env->Option String}{vs:List D}{δ:DL.Env}{c:Option String}(h1:(vs.map some++List.replicate (n-vs.length) none)=δ)(h2:χ δ=c):Qw n χ vs=c:=by
 unfold Qw;rw [h1,h2]
theorem ZhJ{ms:List Nat}(M:Ms ms){r:R}(o:r.Ok ms):JG [r.obj ms]=none:=by
 have no:∀{t:List (String×Bool)}{φ:DL.Env->Option Out}{d:D},Yi t d=some false->sIf (xB (ZK t (Za 0))) φ sNext [some d,none]=some (.nx [some d,none]):=λh=>(Yd (Xb rfl h)).trans rfl
 cases r with
 |gap mk lo mo=>
  obtain⟨a,b,c,d⟩:=o
  have e1:eIf (xB (ZU (Zu Xw "most" (Za 0)))) (eC (.str [97,110,121])) (eCB strW (Zb (Zu Xw "most" (Za 0)) eNil)) [some (gap ms mk lo mo),none]=some (.str (moW mo)):=by
   cases mo with
   |none=>exact ZeB (Yj ((UG (d:=.non) rfl).trans rfl))
   |some m=>exact(ZgG (V9 (d:=.int m) rfl rfl)).trans (Y8 rfl (by have:=d m rfl;omega) (d m rfl).2)
  exact Qg rfl (J0 rfl ((Xu (Xb rfl rfl)).trans ((Zq (Yc e1)).trans (Ys (Xn (Zj rfl (Zj rfl (Zj (Y8 rfl (by omega) c) (Zj rfl nil_of)))) (show 4<=1000 by decide))))))
 |never w=>exact Qg rfl ((XT rfl (no rfl)).trans (J0 rfl ((Xu (Xb rfl rfl)).trans (Ys (Xn (Zj rfl (Zj rfl nil_of)) (show 2<=1000 by decide))))))
 |sum ws lo hi=>
  obtain⟨a,b,c,d,e,f⟩:=o;have hm:=M.hi;have hc:ZX (Z0 (Zu Uq "worths" (Za 0))) (Zz 0) (λ_=>some true) (eCB strW (Zb (Za 0) eNil)) 1 [] [some (Qe ms ws lo hi),none]=some (.lst ((ws.map ZR).map D.str)):=Ve (xs:=ws.map D.int) rfl rfl (Zba b) (by rw [List.length_map,List.length_map];omega);have hl:ZE (Zb (eC (.str [115,117,109])) (Zb (eCB strW (Zb (Zu Up "low" (Za 0)) eNil)) (Zb (eCB strW (Zb (Zu Uo "high" (Za 0)) eNil)) eNil))) [some (Qe ms ws lo hi),none]=some (.lst [.str [115,117,109],.str (ZR lo),.str (ZR hi)]):=Xn (Zj rfl (Zj (Y8 rfl c (by omega)) (Zj (Y8 rfl (by omega) f) nil_of))) (show 3<=1000 by decide)
  exact Qg rfl ((XT rfl (no rfl)).trans ((XT rfl (no rfl)).trans (J0 rfl ((Xu (Xb rfl rfl)).trans (Ys ((Zs hl hc).trans (QY (by rw [List.length_map,List.length_map];show 3+_<=_;omega))))))))
 |turn mk ev at_=>
  obtain⟨a,b,c,d,e⟩:=o;exact Qg rfl ((XT rfl (no rfl)).trans ((XT rfl (no rfl)).trans ((XT rfl (no rfl)).trans (J0 rfl ((Xu (Xb rfl rfl)).trans (Ys (Xn (Zj rfl (Zj rfl (Zj (Y8 rfl (by omega) (by omega)) (Zj (Y8 rfl (by omega) (by omega)) nil_of)))) (show 4<=1000 by decide))))))))
 |alike mo=>
  obtain⟨a,b⟩:=o;exact Qg rfl ((XT rfl (no rfl)).trans ((XT rfl (no rfl)).trans ((XT rfl (no rfl)).trans ((XT rfl (no rfl)).trans (J0 rfl ((Xu (Xb rfl rfl)).trans (Ys (Xn (Zj rfl (Zj (Y8 rfl (by omega) (by omega)) nil_of)) (show 2<=1000 by decide)))))))))
theorem ZgI{o:D}(h:∀t∈[QH,QI,QJ,QK,QG],Yi t o=some false):JG [o]=some "BadRule" := by
 have no:∀{t:List (String×Bool)}{φ:DL.Env->Option Out},Yi t o=some false->sIf (xB (ZK t (Za 0))) φ sNext [some o,none]=some (.nx [some o,none]):=λh=>(Yd (Xb rfl h)).trans rfl
 simp only [List.forall_mem_cons]at h;obtain⟨h1,h2,h3,h4,h5,_⟩:=h;exact Qg rfl ((XT rfl (no h1)).trans ((XT rfl (no h2)).trans ((XT rfl (no h3)).trans ((XT rfl (no h4)).trans ((XT rfl (no h5)).trans rfl)))))
theorem ZgW(o:D):UE [o]=JG [o]:=rfl
abbrev VQ(ms:List Nat):D := .obj "Rule" ["marks"] [.str ms]
theorem Zgf(ms:List Nat):Rl ms (VQ ms):=⟨rfl,λ{a δ} h=>by unfold Zu;rw [h];rfl⟩
theorem ZdD(ms:List Nat):UE [VQ ms]=some "BadRule" := (ZgW _).trans (ZgI (by simp only [List.forall_mem_cons];exact⟨rfl,rfl,rfl,rfl,rfl,λ_ z=>nomatch z⟩))
theorem ZiV(ms:List Nat)(os:List D):UE [Z7 ms os]=some "BadRule" := (ZgW _).trans (ZgI (by simp only [List.forall_mem_cons];exact⟨rfl,rfl,rfl,rfl,rfl,λ_ z=>nomatch z⟩))
theorem ZiW{γ:D->DL.Env->Option DL.Env}{ε:DL.Env->Option D}{χ:DL.Env->Option String}{δ δ1:DL.Env}{x:D}{xs:List D}{c:String}(h1:γ x δ=some δ1)(h2:χ δ1=some c):VC γ (λ_=>some true) ε χ δ (x::xs)=some c:=by
 unfold VC;rw [h1];dsimp only;rw [h2]
theorem ZhK{γ:D->DL.Env->Option DL.Env}{ε:DL.Env->Option D}{χ:DL.Env->Option String}{δ δ1:DL.Env}{x y:D}{xs:List D}(h1:γ x δ=some δ1)(h2:χ δ1=none)(h3:ε δ1=some y):VC γ (λ_=>some true) ε χ δ (x::xs)=VC γ (λ_=>some true) ε χ δ xs:=by
 conv=>lhs;unfold VC
 rw [h1];dsimp only;rw [h2];dsimp only;rw [h3]
theorem ZaZ{n:Nat}{x:List D->Option String}{α:DL.Env->Option (List D)}{δ:DL.Env}{ds:List D}(h:α δ=some ds)(hn:ds.length=n):Uj n x [] α δ=x ds:=by
 unfold Uj;rw [h];dsimp only;rw [List.append_nil,if_pos hn]
theorem ZgJ{ms:List Nat}(M:Ms ms)(post:List D):∀rs:List R,(∀r∈rs,r.Ok ms)->VC (Zz 0) (λ_=>some true) (Zm 1 Vn [] (Zb (Za 0) eNil)) (Uj 1 UE [] (Zb (Za 0) eNil)) [none] (rs.map (R.obj ms)++VQ ms::post)=some "BadRule"
 | [],_=>ZiW rfl ((ZaZ (Zj rfl nil_of) rfl).trans (ZdD ms))
 |r::rs,h=>by
  have o:=h r List.mem_cons_self;exact(ZhK rfl ((ZaZ (Zj rfl nil_of) rfl).trans ((ZgW _).trans (ZhJ M o))) ((Yk (Zj rfl nil_of) rfl).trans (rule_row M o))).trans (ZgJ M post rs λx hx=>h x (List.mem_cons_of_mem _ hx))
theorem Zfj{ms:List Nat}(M:Ms ms){rs:List R}(h:∀r∈rs,r.Ok ms){post:List D}(hl:rs.length+post.length<=100):Zjo [Z7 ms (rs.map (R.obj ms)++VQ ms::post)]=some "BadRule" := by
 have hm:=M.hi
 have e0:ZE (Zb (eOp addD (eC (.str [109,97,114,107,115,32])) (Zu fc_marks "marks" (Za 0))) eNil) [some (Z7 ms (rs.map (R.obj ms)++VQ ms::post)),none]=some (.lst [.str (ZM [32] [YW,ms])]):=Xn (Zj ((Zs rfl rfl).trans (by
  show(if [109,97,114,107,115,32].length+ms.length<=PySem.sizeLine then some (D.str ([109,97,114,107,115,32]++ms))else none)=_;rw [if_pos (by rw [PySem.sizeLine_eq];show 6+ms.length<=_;omega)];rfl)) nil_of) (show 1<=1000 by decide)
 refine Qg (δ:=[some (Z7 ms (rs.map (R.obj ms)++VQ ms::post)),none]) rfl (Zfi ?_);unfold Zi4;rw [e0];dsimp only;unfold Zfq;rw [Qf (Zau rfl)];dsimp only;rw [if_pos (by rw [PySem.sizeLine_eq,List.length_append,List.length_map,List.length_cons];omega)];exact ZgJ M post rs h
theorem ZgK {φ ψ:DL.Env->Option Out} {χ:DL.Env->Option String} {δ:DL.Env} (h:χ δ=some "BadRule"):QC φ χ ["BadRule"] ψ δ=ψ δ:=by
 unfold QC;rw [h];rfl
theorem ZgL:eqD (.int 1) (.int 1)=some (.bl true):=by rw [Yz,decide_eq_true rfl]
theorem refused {o:D} (h:UE [o]=some "BadRule"):QS [o]=some (.bl true):=
 Z9 rfl ((Zq (Yc rfl)).trans ((Zq ((ZgK ((ZaZ (Zj rfl nil_of) rfl).trans h)).trans (Yc rfl))).trans (Ys ((Zs rfl rfl).trans ZgL))))
theorem Zcx {o:D} (h:Zjo [o]=some "BadRule"):Zjv [o]=some (.bl true):=
 Z9 rfl ((Zq (Yc rfl)).trans ((Zq ((ZgK ((ZaZ (Zj rfl nil_of) rfl).trans h)).trans (Yc rfl))).trans (Ys ((Zs rfl rfl).trans ZgL))))
theorem Zgg{c:String}{n:Nat}{m:List D->Option D}{α:DL.Env->Option (List D)}{δ:DL.Env}{ds dd:List D}(h:α δ=some ds)(hn:(ds++dd).length+1=n):ZT c n m dd α δ=m (.obj c [] []::(ds++dd)):=by
 unfold ZT;rw [h];dsimp only;rw [if_pos (by rw [List.length_cons];exact hn)]
theorem ZhL{ms:List Nat}(M:Ms ms){r:R}(o:r.Ok ms):QQ [.str ms,r.val]=some (r.obj ms):=by
 have tst:∀(x w:List Nat)(xs:List D),xB (eOp eqD (eOp ixD (Za 1) (eC (.int 0))) (eC (.str w))) [some (.str ms),some (.tup (.str x::xs))]=some (decide (x=w)):=λx w xs=>Yj ((Zs ((Zs rfl rfl).trans (ix_tup (a:=0) rfl)) rfl).trans (YA _ _))
 have no:∀(x w:List Nat)(xs:List D){φ:DL.Env->Option Out},x≠w->sIf (xB (eOp eqD (eOp ixD (Za 1) (eC (.int 0))) (eC (.str w)))) φ sNext [some (.str ms),some (.tup (.str x::xs))]=some (.nx [some (.str ms),some (.tup (.str x::xs))]):=λx w xs {φ} h=>(Yd ((tst x w xs).trans (by rw [decide_eq_false h]))).trans rfl
 have yes:∀(w:List Nat)(xs:List D){φ:DL.Env->Option Out},sIf (xB (eOp eqD (eOp ixD (Za 1) (eC (.int 0))) (eC (.str w)))) φ sNext [some (.str ms),some (.tup (.str w::xs))]=φ [some (.str ms),some (.tup (.str w::xs))]:=λw xs {φ}=>Xu ((tst w w xs).trans (by rw [decide_eq_true rfl]))
 cases r with
 |gap mk lo mo=>
  obtain⟨a,b,c,d⟩:=o;have G:=Zdw M a b c mo d;have h3:eOp ixD (Za 1) (eC (.int 3)) [some (.str ms),some (.tup [.str [103,97,112],.str [mk],.int lo,Xz mo])]=some (Xz mo):=(Zs rfl rfl).trans (ix_tup (a:=3) rfl);cases mo with
  |none=>exact Z9 rfl (Xm ((yes _ _).trans (Xm ((Xu (Yj ((UG h3).trans rfl))).trans (Ys ((Zgg (dd:=[.non]) (Zj rfl (Zj ((Zs rfl rfl).trans (ix_tup (a:=1) rfl)) (Zj ((Zs rfl rfl).trans (ix_tup (a:=2) rfl)) nil_of))) rfl).trans G))))))
  |some m=>exact Z9 rfl (Xm ((yes _ _).trans ((Zq ((Yd (V9 h3 rfl)).trans rfl)).trans (Ys ((XQ (Zj rfl (Zj ((Zs rfl rfl).trans (ix_tup (a:=1) rfl)) (Zj ((Zs rfl rfl).trans (ix_tup (a:=2) rfl)) (Zj h3 nil_of)))) rfl).trans G)))))
 |never w=>exact Z9 rfl ((Zq (no _ _ _ (by decide))).trans (Xm ((yes _ _).trans (Ys ((XQ (Zj rfl (Zj ((Zs rfl rfl).trans (ix_tup (a:=1) rfl)) nil_of)) rfl).trans (ZbB M o.1 o.2.1 o.2.2))))))
 |sum ws lo hi=>
  obtain⟨a,b,c,d,e,f⟩:=o;exact Z9 rfl ((Zq (no _ _ _ (by decide))).trans ((Zq (no _ _ _ (by decide))).trans (Xm ((yes _ _).trans (Ys ((XQ (Zj rfl (Zj ((Zs rfl rfl).trans (ix_tup (a:=1) rfl)) (Zj ((Zs rfl rfl).trans (ix_tup (a:=2) rfl)) (Zj ((Zs rfl rfl).trans (ix_tup (a:=3) rfl)) nil_of)))) rfl).trans (Zdx M a b c d e f)))))))
 |turn mk ev at_=>
  obtain⟨a,b,c,d,e⟩:=o;exact Z9 rfl ((Zq (no _ _ _ (by decide))).trans ((Zq (no _ _ _ (by decide))).trans ((Zq (no _ _ _ (by decide))).trans (Xm ((yes _ _).trans (Ys ((XQ (Zj rfl (Zj ((Zs rfl rfl).trans (ix_tup (a:=1) rfl)) (Zj ((Zs rfl rfl).trans (ix_tup (a:=2) rfl)) (Zj ((Zs rfl rfl).trans (ix_tup (a:=3) rfl)) nil_of)))) rfl).trans (Zci M a b c d e))))))))
 |alike mo=>exact Z9 rfl ((Zq (no _ _ _ (by decide))).trans ((Zq (no _ _ _ (by decide))).trans ((Zq (no _ _ _ (by decide))).trans ((Zq (no _ _ _ (by decide))).trans (Ys ((XQ (Zj rfl (Zj ((Zs rfl rfl).trans (ix_tup (a:=1) rfl)) nil_of)) rfl).trans (ZbC M o.1 o.2)))))))
end K09
namespace K09
open DL L2
theorem ZeF{α:Type}{f:α->D}{e:DL.Env->Option D}{δ:DL.Env}{xs:List α}(h:e δ=some (.lst (xs.map f)))(hl:xs.length<=1000):Xr (Zb (eCB lenD (Zb e eNil)) eNil) δ=some (Ym 0 1 xs.length):=by
 have:=Jx (α:=Zb (eCB lenD (Zb e eNil)) eNil) (Zj ((Xv (Zj h nil_of)).trans len_lst) nil_of) (by omega) (by rw [List.length_map];omega)
 rwa [Int.toNat_natCast,List.length_map]at this
theorem ZeG{ns:List Int}{δ:DL.Env}{e:DL.Env->Option D}{k:Nat}(h0:Za 0 δ=some (.lst (ns.map D.int)))(h:e δ=some (.int (k:Int))):Zm 2 X1 [] (Zb (Za 0) (Zb e eNil)) δ=some (.int (ns.getD k 0)):=(Yk (Zj h0 (Zj h nil_of)) rfl).trans (ZcK ns k)
theorem ZbJ{a b:DL.Env->Option D}{δ:DL.Env}{w:List Nat}(h1:a δ=some (.str w))(h2:b δ=some (.str w)):ZQ (xB (Zm 2 m_QY [] (Zb a (Zb b eNil)))) δ=some false:=U5 (b:=true) (Yj ((Yk (Zj h1 (Zj h2 nil_of)) rfl).trans (Ut 7 w)))
abbrev Xd(r:R):D := .str (ZM [32] r.words)
noncomputable def l6:DL.Env->Option Out:=(sIf (ZQ (xB (Zm 2 m_QY [] (Zb (Zm 1 Vn [] (Zb (eOp ixD (Za 3) (Za 6)) eNil)) (Zb (eOp ixD (Za 5) (Za 6)) eNil))))) (Zp (eC (.bl false))) sNext)
noncomputable def l11:DL.Env->Option Out:=(Zi (Zt 9 (eOp ixD (Z8 "rules_told" Vo (Za 8) eNil) (Za 6)))
 (sIf (xOr (ZQ (xB (Zm 2 m_QY [] (Zb (Zm 1 Zjs [] (Zb (Za 9) eNil)) (Zb (eOp ixD (Za 2) (Za 6)) eNil))))) (xB (eOp neD (Zu fc_marks "marks" (Za 9)) (Za 1)))) (Zp (eC (.bl false))) sNext))
noncomputable def t10:DL.Env->Option Bool:=(xOr (ZQ (xB (ZK U9 (Za 8)))) (xOr (ZQ (xB (Zm 2 m_QY [] (Zb (Zu fc_marks "marks" (Za 8)) (Zb (Za 1) eNil))))) (xB (eOp neD (eCB lenD (Zb (Z8 "rules_told" Vo (Za 8) eNil) eNil)) (eCB lenD (Zb (Za 2) eNil))))))
noncomputable def t12:DL.Env->Option Bool:=(xOr (ZQ (xB (Zm 2 m_QY [] (Zb (Zm 1 Qb [] (Zb (Za 8) eNil)) (Zb (Za 7) eNil))))) (xOr (ZQ (xB (Zm 1 QS [] (Zb (ZT "Rule" 2 XR [] (Zb (Za 1) eNil)) eNil)))) (ZQ (xB (Zm 1 QS [] (Zb (Za 4) eNil))))))
noncomputable def l14:DL.Env->Option Out:=(Jo 3 (eOp modD (eOp fdivD (Zm 2 X1 [] (Zb (Za 0) (Zb (eC (.int 1)) eNil))) (eC (.int 7))) (eOp addD (eCB lenD (Zb (Za 3) eNil)) (eC (.int 1)))) (ZT "Rule" 2 XR [] (Zb (Za 1) eNil)))
theorem ZlL:Zjw=(Zi (Zt 1 (Zm 1 JI [] (Zb (Zm 2 X1 [] (Zb (Za 0) (Zb (eC (.int 0)) eNil))) eNil)))
 (Zi (Zt 2 (Zm 2 Zju [] (Zb (Za 0) (Zb (Za 1) eNil))))
 (Zi (Zt 3 (ZX (Z0 (Za 2)) (Zz 0) (λ_=>some true) (Zm 2 QQ [] (Zb (Za 1) (Zb (Za 0) eNil))) 1 [1]))
 (Zi (Zt 4 (ZT "All" 3 UD [] (Zb (Za 1) (Zb (Za 3) eNil))))
 (Zi (Zt 5 (ZX (Z0 (Za 2)) (Zz 0) (λ_=>some true) (eBM joinD (eC (.str [32])) (Zb (Zm 1 QR [] (Zb (Za 0) eNil)) eNil)) 1 []))
 (Zi (XO (Xr (Zb (eCB lenD (Zb (Za 2) eNil)) eNil)) (Zz 6) l6)
 (Zi (Zt 7 (eBM joinD (eC (.str [10])) (Zb (eOp Vd (ZE (Zb (eOp addD (eC (.str [109,97,114,107,115,32])) (Za 1)) eNil)) (Za 5)) eNil)))
 (Zi (sIf (ZQ (xB (Zm 2 m_QY [] (Zb (Zm 1 Qb [] (Zb (Za 4) eNil)) (Zb (Za 7) eNil))))) (Zp (eC (.bl false))) sNext)
 (Zi (Zt 8 (Zm 1 JF [] (Zb (Za 7) eNil)))
 (Zi (sIf t10 (Zp (eC (.bl false))) sNext)
 (Zi (XO (Xr (Zb (eCB lenD (Zb (Za 2) eNil)) eNil)) (Zz 6) l11)
 (Zi (sIf t12 (Zp (eC (.bl false))) sNext)
 (Zi (Zt 3 (Jn (Za 3) xNoP (xP (eC (.int 5)))))
 (Zi l14
 (Zp (Zm 1 Zjv [] (Zb (ZT "All" 3 UD [] (Zb (Za 1) (Zb (Za 3) eNil))) eNil))))))))))))))))):=rfl
abbrev WE(L:D)(ms:List Nat)(rs:List R)(md:D)(v4 v5 v6 v7 v8 v9:Option D):DL.Env:=[some L,some (.str ms),some (.lst (rs.map R.val)),some md,v4,v5,v6,v7,v8,v9]
theorem Zcj{ms:List Nat}(M:Ms ms):∀rs:List R,(∀r∈rs,r.Ok ms)->Yx (Zz 0) (λ_=>some true) (Zm 2 QQ [] (Zb (Za 1) (Zb (Za 0) eNil))) [none,some (.str ms)] (rs.map R.val)=some (rs.map (R.obj ms))
 | [],_=>rfl
 |r::rs,h=>Ua rfl ((Yk (Zj rfl (Zj rfl nil_of)) rfl).trans (ZhL M (h r List.mem_cons_self))) (Zcj M rs λx hx=>h x (List.mem_cons_of_mem _ hx))
theorem Zck{ms:List Nat}(M:Ms ms):∀rs:List R,(∀r∈rs,r.Ok ms)->Yx (Zz 0) (λ_=>some true) (eBM joinD (eC (.str [32])) (Zb (Zm 1 QR [] (Zb (Za 0) eNil)) eNil)) [none] (rs.map R.val)=some (rs.map Xd)
 | [],_=>rfl
 |r::rs,h=>by
  obtain⟨g1,g2⟩:=R.good M (h r List.mem_cons_self);exact Ua rfl ((QF rfl (Zj ((Yk (Zj rfl nil_of) rfl).trans (Zff M (h r List.mem_cons_self))) nil_of)).trans (ZaY (m:=8) (n:=7) (λw hw=>(g2 w hw).2) g1 (by decide))) (Zck M rs λx hx=>h x (List.mem_cons_of_mem _ hx))
theorem ZlM{ms:List Nat}(M:Ms ms){rs:List R}(ho:∀r∈rs,r.Ok ms)(L:D)(v4 v7 v8 v9:Option D):∃v6,Xp (Zz 6) l6 (Ym 0 1 rs.length) (WE L ms rs (.lst (rs.map (R.obj ms))) v4 (some (.lst (rs.map Xd))) none v7 v8 v9)=some (.nx (WE L ms rs (.lst (rs.map (R.obj ms))) v4 (some (.lst (rs.map Xd))) v6 v7 v8 v9)):=by
 obtain⟨δ',h1,v,rfl⟩:=ZaD (γ:=Zz 6) (φ:=l6) (λδ=>∃v,δ=WE L ms rs (.lst (rs.map (R.obj ms))) v4 (some (.lst (rs.map Xd))) v v7 v8 v9) (Ym 0 1 rs.length) (WE L ms rs (.lst (rs.map (R.obj ms))) v4 (some (.lst (rs.map Xd))) none v7 v8 v9) ⟨_,rfl⟩ (by
  intro x hx δ ⟨v,e⟩;subst e;obtain⟨k,hk,rfl⟩:=ZcI hx;rw [show(0+(k:Int)*1)=k by omega];have hg:rs[k]? = some rs[k]:=List.getElem?_eq_getElem hk;have o:=ho rs[k] (List.getElem_mem hk);generalize rs[k]=r at hg o;have g1:(rs.map (R.obj ms))[k]? = some (r.obj ms):=by rw [List.getElem?_map,hg];rfl
  have g2:(rs.map Xd)[k]? = some (Xd r):=by rw [List.getElem?_map,hg];rfl
  refine⟨_,rfl,WE L ms rs (.lst (rs.map (R.obj ms))) v4 (some (.lst (rs.map Xd))) (some (.int (k:Int))) v7 v8 v9,?_,_,rfl⟩;exact(Yd (ZbJ ((Yk (Zj ((Zs rfl rfl).trans (YV g1)) nil_of) rfl).trans (rule_row M o)) ((Zs rfl rfl).trans (YV g2)))).trans rfl)
 exact⟨v,h1⟩
theorem ZiX{ms:List Nat}(M:Ms ms){rs:List R}(ho:∀r∈rs,r.Ok ms)(L md:D)(v4 v5 v6 v7:Option D):∃u6 u9,Xp (Zz 6) l11 (Ym 0 1 rs.length) (WE L ms rs md v4 v5 v6 v7 (some (Z7 ms (rs.map (R.obj ms)))) none)=some (.nx (WE L ms rs md v4 v5 u6 v7 (some (Z7 ms (rs.map (R.obj ms)))) u9)):=by
 obtain⟨δ',h1,v,u,rfl⟩:=ZaD (γ:=Zz 6) (φ:=l11) (λδ=>∃v u,δ=WE L ms rs md v4 v5 v v7 (some (Z7 ms (rs.map (R.obj ms)))) u) (Ym 0 1 rs.length) (WE L ms rs md v4 v5 v6 v7 (some (Z7 ms (rs.map (R.obj ms)))) none) ⟨_,_,rfl⟩ (by
  intro x hx δ ⟨v,u,e⟩;subst e;obtain⟨k,hk,rfl⟩:=ZcI hx;rw [show(0+(k:Int)*1)=k by omega];have hg:rs[k]? = some rs[k]:=List.getElem?_eq_getElem hk;have o:=ho rs[k] (List.getElem_mem hk);generalize rs[k]=r at hg o;have g1:(rs.map (R.obj ms))[k]? = some (r.obj ms):=by rw [List.getElem?_map,hg];rfl
  have g2:(rs.map R.val)[k]? = some r.val:=by rw [List.getElem?_map,hg];rfl
  refine⟨_,rfl,WE L ms rs md v4 v5 (some (.int (k:Int))) v7 (some (Z7 ms (rs.map (R.obj ms)))) (some (r.obj ms)),?_,_,_,rfl⟩;refine(Zq (δ':=WE L ms rs md v4 v5 (some (.int (k:Int))) v7 (some (Z7 ms (rs.map (R.obj ms)))) (some (r.obj ms))) (Yc ((Zs (Zau rfl) rfl).trans (YV g1)))).trans ?_;exact(Yd (Um (U5 (b:=true) (Yj ((Yk (Zj ((Yk (Zj rfl nil_of) rfl).trans (ZiR r)) (Zj ((Zs rfl rfl).trans (YV g2)) nil_of)) rfl).trans (Zgc M o)))) (Yj ((Zs (R.fm r rfl) rfl).trans (neS _ _ rfl))))).trans rfl)
 exact⟨v,u,h1⟩
theorem all_true:∀ns:List Int,ns.length<=63->Zjx [.lst (ns.map D.int)]=some (.bl true):=by
 intro ns hns;have M:=Zf8 (ns.getD 0 0);have hmk:=Zf7 (ns.getD 0 0);obtain⟨rs,ho,h6,hrs⟩:=Zge M.lo M.hi ns;generalize Us (ns.getD 0 0)=ms at M hmk ho hrs;have hm:=M.hi;have A:=ZbQ M (os:=rs.map (R.obj ms)) (λo hm=>let⟨r,_,q⟩:=List.mem_map.mp hm;q▸r.rl) (by rw [List.length_map];exact h6);obtain⟨pf,ps⟩:=ZdC M ho;have rp:=rules_page M ho h6;have rd:=Zfh M pf (by unfold Xc;rw [List.length_cons,List.length_map];omega) ps ho h6
 have hj:=ZaY (c:=10) (l:=Xc ms rs) (m:=300) (n:=7) (λr hr=>(pf r hr).2) (by unfold Xc;rw [List.length_cons,List.length_map];omega) (by decide);have hpl:=Qd M "Rule" rfl;have c3:ZX (Z0 (Za 2)) (Zz 0) (λ_=>some true) (Zm 2 QQ [] (Zb (Za 1) (Zb (Za 0) eNil))) 1 [1] [some (.lst (ns.map D.int)),some (.str ms),some (.lst (rs.map R.val)),none,none,none,none,none,none,none]=some (.lst (rs.map (R.obj ms))):=Ve (Qf rfl) rfl (Zcj M rs ho) (by rw [List.length_map];omega)
 have c5:ZX (Z0 (Za 2)) (Zz 0) (λ_=>some true) (eBM joinD (eC (.str [32])) (Zb (Zm 1 QR [] (Zb (Za 0) eNil)) eNil)) 1 [] (WE (.lst (ns.map D.int)) ms rs (.lst (rs.map (R.obj ms))) (some (Z7 ms (rs.map (R.obj ms)))) none none none none none)=some (.lst (rs.map Xd)):=Ve (Qf rfl) rfl (Zck M rs ho) (by rw [List.length_map];omega);obtain⟨w6,f6⟩:=ZlM M ho (.lst (ns.map D.int)) (some (Z7 ms (rs.map (R.obj ms)))) none none none
 have e7:eBM joinD (eC (.str [10])) (Zb (eOp Vd (ZE (Zb (eOp addD (eC (.str [109,97,114,107,115,32])) (Za 1)) eNil)) (Za 5)) eNil) (WE (.lst (ns.map D.int)) ms rs (.lst (rs.map (R.obj ms))) (some (Z7 ms (rs.map (R.obj ms)))) (some (.lst (rs.map Xd))) w6 none none none)=some (.str (ZM [10] (Xc ms rs))):=by
  have e0:ZE (Zb (eOp addD (eC (.str [109,97,114,107,115,32])) (Za 1)) eNil) (WE (.lst (ns.map D.int)) ms rs (.lst (rs.map (R.obj ms))) (some (Z7 ms (rs.map (R.obj ms)))) (some (.lst (rs.map Xd))) w6 none none none)=some (.lst [.str (ZM [32] [YW,ms])]):=Xn (Zj ((Zs rfl rfl).trans (by
   show(if [109,97,114,107,115,32].length+ms.length<=PySem.sizeLine then some (D.str ([109,97,114,107,115,32]++ms))else none)=_;rw [if_pos (by rw [PySem.sizeLine_eq];show 6+ms.length<=_;omega)];rfl)) nil_of) (show 1<=1000 by decide)
  have e3:[.str (ZM [32] [YW,ms])]++rs.map Xd=(Xc ms rs).map D.str:=by
   unfold Xc;rw [List.map_cons,List.map_map];rfl
  have e2:=QY (a:=[.str (ZM [32] [YW,ms])]) (b:=rs.map Xd) (by rw [List.length_map];show 1+_<=_;omega);rw [e3]at e2;exact(QF rfl (Zj ((Zs e0 rfl).trans e2) nil_of)).trans hj
 obtain⟨u6,u9,f11⟩:=ZiX M ho (.lst (ns.map D.int)) (.lst (rs.map (R.obj ms))) (some (Z7 ms (rs.map (R.obj ms)))) (some (.lst (rs.map Xd))) w6 (some (.str (ZM [10] (Xc ms rs))));have b10:t10 (WE (.lst (ns.map D.int)) ms rs (.lst (rs.map (R.obj ms))) (some (Z7 ms (rs.map (R.obj ms)))) (some (.lst (rs.map Xd))) w6 (some (.str (ZM [10] (Xc ms rs)))) (some (Z7 ms (rs.map (R.obj ms)))) none)=some false:=Um (U5 (b:=true) (Xb rfl rfl)) (Um (ZbJ rfl rfl) (Yj ((Zs ((Xv (Zj (Zau rfl) nil_of)).trans len_lst) ((Xv (Zj rfl nil_of)).trans len_lst)).trans (neN _ _ (by rw [List.length_map,List.length_map])))))
 have b12:t12 (WE (.lst (ns.map D.int)) ms rs (.lst (rs.map (R.obj ms))) (some (Z7 ms (rs.map (R.obj ms)))) (some (.lst (rs.map Xd))) u6 (some (.str (ZM [10] (Xc ms rs)))) (some (Z7 ms (rs.map (R.obj ms)))) u9)=some false:=Um (ZbJ ((Yk (Zj rfl nil_of) rfl).trans rp) rfl) (Um (U5 (b:=true) (Yj ((Yk (Zj ((XQ (Zj rfl nil_of) rfl).trans hpl) nil_of) rfl).trans (refused (ZdD ms))))) (U5 (b:=true) (Yj ((Yk (Zj rfl nil_of) rfl).trans (refused (ZiV ms _))))))
 have h13:Jn (Za 3) xNoP (xP (eC (.int 5))) (WE (.lst (ns.map D.int)) ms rs (.lst (rs.map (R.obj ms))) (some (Z7 ms (rs.map (R.obj ms)))) (some (.lst (rs.map Xd))) u6 (some (.str (ZM [10] (Xc ms rs)))) (some (Z7 ms (rs.map (R.obj ms)))) u9)=some (.lst ((rs.take 5).map (R.obj ms))):=by
  rw [List.map_take,<-ZeE];rfl
 have h5:(rs.take 5).length<=5:=by rw [List.length_take];omega
 have ho5:∀r∈rs.take 5,r.Ok ms:=λr hr=>ho r (List.mem_of_mem_take hr)
 generalize rs.take 5=qs at h13 h5 ho5;obtain⟨i,hi,hil⟩:=Zhy (ns.getD 1 0 / 7) (m:=qs.length+1) (by omega)
 have h14:l14 (WE (.lst (ns.map D.int)) ms rs (.lst (qs.map (R.obj ms))) (some (Z7 ms (rs.map (R.obj ms)))) (some (.lst (rs.map Xd))) u6 (some (.str (ZM [10] (Xc ms rs)))) (some (Z7 ms (rs.map (R.obj ms)))) u9)=some (.nx (WE (.lst (ns.map D.int)) ms rs (.lst ((qs.take i).map (R.obj ms)++VQ ms::(qs.drop i).map (R.obj ms))) (some (Z7 ms (rs.map (R.obj ms)))) (some (.lst (rs.map Xd))) u6 (some (.str (ZM [10] (Xc ms rs)))) (some (Z7 ms (rs.map (R.obj ms)))) u9)):=by
  have k1:eOp modD (eOp fdivD (Zm 2 X1 [] (Zb (Za 0) (Zb (eC (.int 1)) eNil))) (eC (.int 7))) (eOp addD (eCB lenD (Zb (Za 3) eNil)) (eC (.int 1))) (WE (.lst (ns.map D.int)) ms rs (.lst (qs.map (R.obj ms))) (some (Z7 ms (rs.map (R.obj ms)))) (some (.lst (rs.map Xd))) u6 (some (.str (ZM [10] (Xc ms rs)))) (some (Z7 ms (rs.map (R.obj ms)))) u9)=some (.int (i:Int)):=by
   refine(Zs (x:=.int (ns.getD 1 0 / 7)) (y:=.int ((qs.length:Int)+1)) ((Zs (ZeG (ns:=ns) (k:=1) rfl rfl) rfl).trans (ZaC ⟨by decide,by decide⟩)) ((Zs (x:=.int (qs.length:Int)) ((Xv (Zj rfl nil_of)).trans (len_lst.trans (by rw [List.length_map]))) rfl).trans rfl)).trans ((U4 (by omega)).trans ?_);rw [show(qs.length:Int)+1=((qs.length+1:Nat):Int) by omega,hi]
  have k2:ZT "Rule" 2 XR [] (Zb (Za 1) eNil) (WE (.lst (ns.map D.int)) ms rs (.lst (qs.map (R.obj ms))) (some (Z7 ms (rs.map (R.obj ms)))) (some (.lst (rs.map Xd))) u6 (some (.str (ZM [10] (Xc ms rs)))) (some (Z7 ms (rs.map (R.obj ms)))) u9)=some (VQ ms):=(XQ (Zj rfl nil_of) rfl).trans hpl;unfold l14 Jo;rw [k1,k2];show(if 0<=(i:Int)/\(i:Int)<=((qs.map (R.obj ms)).length:Nat)/\(qs.map (R.obj ms)).length<PySem.sizeLine then some (Out.nx ([_,_,_,some (D.lst ((qs.map (R.obj ms)).take (i:Int).toNat++VQ ms::(qs.map (R.obj ms)).drop (i:Int).toNat)),_,_,_,_,_,_]))else none)=_
  rw [if_pos ⟨by omega,by rw [List.length_map];omega,by rw [List.length_map,PySem.sizeLine_eq];omega⟩,Int.toNat_natCast,<-List.map_take,<-List.map_drop]
 have hA2:=ZbQ M (os:=(qs.take i).map (R.obj ms)++VQ ms::(qs.drop i).map (R.obj ms)) (λo hm=>by
  rcases List.mem_append.mp hm with h|h
  · obtain⟨r,_,q⟩:=List.mem_map.mp h
    exact q▸r.rl
  · rcases List.mem_cons.mp h with h|h
    · rw [h];exact Zgf ms
    · obtain⟨r,_,q⟩:=List.mem_map.mp h
      exact q▸r.rl) (by rw [List.length_append,List.length_cons,List.length_map,List.length_map,List.length_take,List.length_drop];omega)
 have hP:=Zfj M (rs:=qs.take i) (λr hr=>ho5 r (List.mem_of_mem_take hr)) (post:=(qs.drop i).map (R.obj ms)) (by rw [List.length_map,List.length_take,List.length_drop];omega);have hR:=Zcx hP;generalize (qs.take i).map (R.obj ms)++VQ ms::(qs.drop i).map (R.obj ms)=ins at *;exact Z9 rfl ((congrFun ZlL _).trans ((Zq (Yc ((Yk (Zj (ZeG (ns:=ns) (k:=0) rfl rfl) nil_of) rfl).trans hmk))).trans ((Zq (Yc ((Yk (Zj rfl (Zj rfl nil_of)) rfl).trans hrs))).trans ((Zq (Yc c3)).trans ((Zq (Yc ((XQ (Zj rfl (Zj rfl nil_of)) rfl).trans A))).trans ((Zq (Yc c5)).trans ((Zq (QE (ZeF rfl (by omega)) f6)).trans ((Zq (Yc e7)).trans ((Zq ((Yd (ZbJ ((Yk (Zj rfl nil_of) rfl).trans rp) rfl)).trans rfl)).trans ((Zq (Yc ((Yk (Zj rfl nil_of) rfl).trans rd))).trans ((Zq ((Yd b10).trans rfl)).trans ((Zq (QE (ZeF rfl (by omega)) f11)).trans ((Zq ((Yd b12).trans rfl)).trans ((Zq (Yc h13)).trans ((Zq h14).trans (Ys ((Yk (Zj ((XQ (Zj rfl (Zj rfl nil_of)) rfl).trans hA2) nil_of) rfl).trans hR)))))))))))))))))
end K09
namespace K09
open PySem PySem.Spec L2 DL
def Zfv(K:PySem.W.Frag):Sp:=λvs H Q _=>∃(a:Addr) (ns:List Int),vs=[.ref a]/\SqL K H a (ns.map V.int)/\ns.length<=63/\∀H',Q (.bl true) H'
theorem ZiY(hall:∀ns:List Int,ns.length<=63->Zjx [.lst (ns.map D.int)]=some (.bl true)){P:Program}{w:World}{K:PySem.W.Frag}{mg:Str->Option Value}{base:Heap}{t:Adr}(T:Txt w K mg t):FnOk P w K mg base CX0 9 t.a_Qc t.d_Qc ["script"] (Zfv K):=
 (ZlF T).imp λvs H Q E ⟨a,ns,hv,hr,hl,q⟩=>by
   subst hv;refine⟨λ_=>False,[.lst (ns.map D.int)],.bl true,λ_ z=>z.elim,.cons ?_ .nil,rfl,hall ns hl,λv H' _ r => ?_⟩
   · unfold Rep
     refine⟨a,_,rfl,λz=>z.elim,hr,?_⟩;have:=RepL.of_vals (cA:=⟨t.c,K,lms⟩) (av:=λ_=>False) (H:=H) (xs:=ns.map D.int) (by rw [List.all_map];exact List.all_eq_true.mpr λ_ _=>rfl);rw [List.map_map]at this;exact this
   · cases(show v=_ from r)
     exact q H'
theorem all_mk (hall:∀ns:List Int,ns.length<=63->Zjx [.lst (ns.map D.int)]=some (.bl true)) {l:PySem.W.OpenLaw} {w:World} {K:PySem.W.Frag} {h:Heap} {mg:Str->Option Value} {fa:Addr} (X:K.In h) (G:h.Ns mainGlobals mg) (hfa:mg "law" = some (.ref fa))
 {c_Rule:Addr}
 {c_Gap:Addr}
 {c_Never:Addr}
 {c_Sum:Addr}
 {c_Turn:Addr}
 {c_Alike:Addr}
 {c_All:Addr}
 {c_BadRule:Addr}
 {f0 f1 f2 f3 f4 f6 f7 f8 f9 f10 f11 f12 f13 f14 f15 f16 f22 f23 f24 f25 f26 f27 f28 f29 f30 f31 f32 f33 f34 f35 f36 f37 f38:Addr} {d0 d1 d2 d3 d4 d6 d7 d8 d9 d10 d11 d12 d13 d14 d15 d16 d22 d23 d24 d25 d26 d27 d28 d29 d30 d31 d32 d33 d34 d35 d36 d37 d38:FuncData}
 {f5:Addr} {od5 an5:Option Addr} {sl5:Array (Option Value)} {oc5 kV5 dc5 pm5 cd5 ct5:Value}
 {dt5:Addr} {do5:Obj} {dn5:Nat}
 {f17:Addr} {od17 an17:Option Addr} {sl17:Array (Option Value)} {oc17 kV17 dc17 pm17 cd17 ct17:Value}
 {f18:Addr} {od18 an18:Option Addr} {sl18:Array (Option Value)} {oc18 kV18 dc18 pm18 cd18 ct18:Value}
 {f19:Addr} {od19 an19:Option Addr} {sl19:Array (Option Value)} {oc19 kV19 dc19 pm19 cd19 ct19:Value}
 {f20:Addr} {od20 an20:Option Addr} {sl20:Array (Option Value)} {oc20 kV20 dc20 pm20 cd20 ct20:Value}
 {f21:Addr} {od21 an21:Option Addr} {sl21:Array (Option Value)} {oc21 kV21 dc21 pm21 cd21 ct21:Value}
 {pt0 cn0:Addr} {odc0:Option Addr} {vsc0:Array Value} {slc0:Array (Option Value)} {fln0:Str} {flg0 txl0:Int} {inf0:Bool} {tkf0 tkg0 tkt0:Tok}
 {pt1 cn1:Addr} {odc1:Option Addr} {vsc1:Array Value} {slc1:Array (Option Value)} {fln1:Str} {flg1 txl1:Int} {inf1:Bool} {tkf1 tkg1 tkt1:Tok}
 {pt2 cn2:Addr} {odc2:Option Addr} {vsc2:Array Value} {slc2:Array (Option Value)} {fln2:Str} {flg2 txl2:Int} {inf2:Bool} {tkf2 tkg2 tkt2:Tok}
 {pt3 cn3:Addr} {odc3:Option Addr} {vsc3:Array Value} {slc3:Array (Option Value)} {fln3:Str} {flg3 txl3:Int} {inf3:Bool} {tkf3 tkg3 tkt3:Tok}
 {pt4 cn4:Addr} {odc4:Option Addr} {vsc4:Array Value} {slc4:Array (Option Value)} {fln4:Str} {flg4 txl4:Int} {inf4:Bool} {tkf4 tkg4 tkt4:Tok}
 {bm:Addr} {slm:Array (Option Value)}
 {am_MAKERS:Addr} {nm_MAKERS:Nat} {xm0 xm1 xm2 xm3 xm4:Str} {tm0 tm1 tm2 tm3 tm4:Nat}
 {x_MARK_SIGNS:Str} {t_MARK_SIGNS:Tok}
 {x_FIGURES:Str} {t_FIGURES:Tok}
 (Zrf:nsIn K mainGlobals "Rule" = some (some (.ref c_Rule)))
 (Zrd:nsIn K mainGlobals "Gap" = some (some (.ref c_Gap)))
 (Zre:nsIn K mainGlobals "Never" = some (some (.ref c_Never)))
 (Zrg:nsIn K mainGlobals "Sum" = some (some (.ref c_Sum)))
 (Zrh:nsIn K mainGlobals "Turn" = some (some (.ref c_Turn)))
 (Zra:nsIn K mainGlobals "Alike" = some (some (.ref c_Alike)))
 (Zrb:nsIn K mainGlobals "All" = some (some (.ref c_All)))
 (Zrc:nsIn K mainGlobals "BadRule" = some (some (.ref c_BadRule)))
 (l0:Fg K "marks_stand" JJ f0 d0)
 (l1:Fg K "is_mark" Zjy f1 d1)
 (l2:Fg K "is_whole" Zjz f2 d2)
 (l3:Fg K "demand" ZjA f3 d3)
 (a4:PySem.W.findIn K (.ref c_Rule) "__init__" = some (some (.ref f4)))
 (l4:Fun K "__init__" "Rule.__init__" ZjB f4 d4)
 (a5:PySem.W.findIn K (.ref c_Gap) "__init__" = some (some (.ref f5)))
 (l5:K.lookup f5=some ⟨oc5,od5,.func (fnOf "__init__" "Gap.__init__" (defArgs Ur) (defBody Ur) (defScope Ur) (.ref dt5) kV5 dc5 pm5 an5 cd5 ct5),sl5⟩)
 (c5:codeIn K cd5 "Gap.__init__" = true)
 (k5:keepIn K (.ref f5)=true)
 (y5:K.lookup dt5=some do5)
 (yd5:do5.data = .seq ([.none]:List Value).toArray dn5)
 (a6:PySem.W.findIn K (.ref c_Never) "__init__" = some (some (.ref f6)))
 (l6:Fun K "__init__" "Never.__init__" JK f6 d6)
 (a7:PySem.W.findIn K (.ref c_Sum) "__init__" = some (some (.ref f7)))
 (l7:Fun K "__init__" "Sum.__init__" JL f7 d7)
 (a8:PySem.W.findIn K (.ref c_Turn) "__init__" = some (some (.ref f8)))
 (l8:Fun K "__init__" "Turn.__init__" ZjC f8 d8)
 (a9:PySem.W.findIn K (.ref c_Alike) "__init__" = some (some (.ref f9)))
 (l9:Fun K "__init__" "Alike.__init__" ZjD f9 d9)
 (a10:PySem.W.findIn K (.ref c_All) "__init__" = some (some (.ref f10)))
 (l10:Fun K "__init__" "All.__init__" QT f10 d10)
 (a11:PySem.W.findIn K (.ref c_All) "rules_told" = some (some (.ref f11)))
 (l11:Fun K "rules_told" "All.rules_told" ZjE f11 d11)
 (l12:Fg K "words_in" JM f12 d12)
 (l13:Fg K "rows_of" ZjF f13 d13)
 (l14:Fg K "whole_in" JN f14 d14)
 (l15:Fg K "number_in" ZjG f15 d15)
 (l16:Fg K "signed_in" ZjH f16 d16)
 (a17:nsIn K mainGlobals "gap_maker" = some (some (.ref f17)))
 (l17:K.lookup f17=some ⟨oc17,od17,.func (fnOf "gap_maker" "gap_maker" (defArgs VH) (defBody VH) (defScope VH) .none kV17 dc17 pm17 an17 cd17 ct17),sl17⟩)
 (c17:codeIn K cd17 "gap_maker" = true)
 (k17:keepIn K (.ref f17)=true)
 (a18:nsIn K mainGlobals "never_maker" = some (some (.ref f18)))
 (l18:K.lookup f18=some ⟨oc18,od18,.func (fnOf "never_maker" "never_maker" (defArgs VL) (defBody VL) (defScope VL) .none kV18 dc18 pm18 an18 cd18 ct18),sl18⟩)
 (c18:codeIn K cd18 "never_maker" = true)
 (k18:keepIn K (.ref f18)=true)
 (a19:nsIn K mainGlobals "sum_maker" = some (some (.ref f19)))
 (l19:K.lookup f19=some ⟨oc19,od19,.func (fnOf "sum_maker" "sum_maker" (defArgs Vp) (defBody Vp) (defScope Vp) .none kV19 dc19 pm19 an19 cd19 ct19),sl19⟩)
 (c19:codeIn K cd19 "sum_maker" = true)
 (k19:keepIn K (.ref f19)=true)
 (a20:nsIn K mainGlobals "turn_maker" = some (some (.ref f20)))
 (l20:K.lookup f20=some ⟨oc20,od20,.func (fnOf "turn_maker" "turn_maker" (defArgs VM) (defBody VM) (defScope VM) .none kV20 dc20 pm20 an20 cd20 ct20),sl20⟩)
 (c20:codeIn K cd20 "turn_maker" = true)
 (k20:keepIn K (.ref f20)=true)
 (a21:nsIn K mainGlobals "alike_maker" = some (some (.ref f21)))
 (l21:K.lookup f21=some ⟨oc21,od21,.func (fnOf "alike_maker" "alike_maker" (defArgs VN) (defBody VN) (defScope VN) .none kV21 dc21 pm21 an21 cd21 ct21),sl21⟩)
 (c21:codeIn K cd21 "alike_maker" = true)
 (k21:keepIn K (.ref f21)=true)
 (l22:Fg K "rule_maker" ZjI f22 d22)
 (l23:Fg K "marks_told" ZjJ f23 d23)
 (l24:Fg K "read_rules" JO f24 d24)
 (l25:Fg K "rule_words" JP f25 d25)
 (l26:Fg K "rule_row" ZjK f26 d26)
 (l27:Fg K "rules_page" JQ f27 d27)
 (l28:Fg K "_law_cell_at" ZjL f28 d28)
 (l29:Fg K "_law_marks" JR f29 d29)
 (l30:Fg K "_law_rule" JS f30 d30)
 (l31:Fg K "_law_made" ZjM f31 d31)
 (l32:Fg K "_law_row_words" QU f32 d32)
 (l33:Fg K "_law_values" ZjN f33 d33)
 (l34:Fg K "_law_same" ZjO f34 d34)
 (l35:Fg K "_law_rules" JT f35 d35)
 (l36:Fg K "_law_refused" ZjP f36 d36)
 (l37:Fg K "_law_page_refused" ZjQ f37 d37)
 (l38:Fg K "law" QV f38 d38)
 (Zqa:cd17 = .ref cn0)
 (Zp5:K.lookup cn0=some ⟨.type "code",odc0,.fields vsc0,slc0⟩)
 (Zqf:vsc0[11]? = some (.ref pt0))
 (Zqk:vsc0[18]? = some (.str fln0 tkf0))
 (Zqp:vsc0[7]? = some (.int flg0 tkg0))
 (Zqu:vsc0[9]? = some (.bool inf0))
 (Zqz:vsc0[10]? = some (.int txl0 tkt0))
 (Zp0:cn0≠pt0)
 (nt_0:(pt0,("gap_maker.<locals>.<lambda>" : Str))∈Xe K)
 (Zqb:cd18 = .ref cn1)
 (Zp6:K.lookup cn1=some ⟨.type "code",odc1,.fields vsc1,slc1⟩)
 (Zqg:vsc1[11]? = some (.ref pt1))
 (Zql:vsc1[18]? = some (.str fln1 tkf1))
 (Zqq:vsc1[7]? = some (.int flg1 tkg1))
 (Zqv:vsc1[9]? = some (.bool inf1))
 (ZqA:vsc1[10]? = some (.int txl1 tkt1))
 (Zp1:cn1≠pt1)
 (nt_1:(pt1,("never_maker.<locals>.<lambda>" : Str))∈Xe K)
 (Zqc:cd19 = .ref cn2)
 (Zp7:K.lookup cn2=some ⟨.type "code",odc2,.fields vsc2,slc2⟩)
 (Zqh:vsc2[11]? = some (.ref pt2))
 (Zqm:vsc2[18]? = some (.str fln2 tkf2))
 (Zqr:vsc2[7]? = some (.int flg2 tkg2))
 (Zqw:vsc2[9]? = some (.bool inf2))
 (ZqB:vsc2[10]? = some (.int txl2 tkt2))
 (Zp2:cn2≠pt2)
 (nt_2:(pt2,("sum_maker.<locals>.<lambda>" : Str))∈Xe K)
 (Zqd:cd20 = .ref cn3)
 (Zp8:K.lookup cn3=some ⟨.type "code",odc3,.fields vsc3,slc3⟩)
 (Zqi:vsc3[11]? = some (.ref pt3))
 (Zqn:vsc3[18]? = some (.str fln3 tkf3))
 (Zqs:vsc3[7]? = some (.int flg3 tkg3))
 (Zqx:vsc3[9]? = some (.bool inf3))
 (ZqC:vsc3[10]? = some (.int txl3 tkt3))
 (Zp3:cn3≠pt3)
 (nt_3:(pt3,("turn_maker.<locals>.<lambda>" : Str))∈Xe K)
 (Zqe:cd21 = .ref cn4)
 (Zp9:K.lookup cn4=some ⟨.type "code",odc4,.fields vsc4,slc4⟩)
 (Zqj:vsc4[11]? = some (.ref pt4))
 (Zqo:vsc4[18]? = some (.str fln4 tkf4))
 (Zqt:vsc4[7]? = some (.int flg4 tkg4))
 (Zqy:vsc4[9]? = some (.bool inf4))
 (ZqD:vsc4[10]? = some (.int txl4 tkt4))
 (Zp4:cn4≠pt4)
 (nt_4:(pt4,("alike_maker.<locals>.<lambda>" : Str))∈Xe K)
 (nk8_:nsIn K mainGlobals "__builtins__" = some (some (.ref bm)))
 (nk9_:K.lookup bm=some ⟨.type "module",some builtinsNs,.plain,slm⟩)
 (ZpZ:bm≠builtinsNs)
 (ZmK:nsIn K mainGlobals "MAKERS" = some (some (.ref am_MAKERS)))
 (ZmA:K.lookup am_MAKERS=some ⟨.type "dict",none,.dict ([⟨PyData.keyHash w.params xm0,.str xm0 tm0,.ref f17⟩,⟨PyData.keyHash w.params xm1,.str xm1 tm1,.ref f18⟩,⟨PyData.keyHash w.params xm2,.str xm2 tm2,.ref f19⟩,⟨PyData.keyHash w.params xm3,.str xm3 tm3,.ref f20⟩,⟨PyData.keyHash w.params xm4,.str xm4 tm4,.ref f21⟩]:List DictEntry).toArray nm_MAKERS,#[]⟩)
 (Zq4:xm0=tx [103,97,112])
 (Zq5:xm1=tx [110,101,118,101,114])
 (Zq6:xm2=tx [115,117,109])
 (Zq7:xm3=tx [116,117,114,110])
 (Zq8:xm4=tx [97,108,105,107,101])
 (ZqE:(am_MAKERS == sysModules)=false)
 (Zri:nsIn K mainGlobals "ValueError" = some none)
 (Zrj:nsIn K mainGlobals "all" = some none)
 (Zrk:nsIn K mainGlobals "any" = some none)
 (Zrl:nsIn K mainGlobals "bool" = some none)
 (Zrm:nsIn K mainGlobals "enumerate" = some none)
 (Zrn:nsIn K mainGlobals "int" = some none)
 (Zro:nsIn K mainGlobals "isinstance" = some none)
 (Zrp:nsIn K mainGlobals "len" = some none)
 (Zrq:nsIn K mainGlobals "list" = some none)
 (Zrr:nsIn K mainGlobals "min" = some none)
 (Zrs:nsIn K mainGlobals "range" = some none)
 (Zrt:nsIn K mainGlobals "str" = some none)
 (Zru:nsIn K mainGlobals "tuple" = some none)
 (Zrv:nsIn K mainGlobals "zip" = some none)
 (Zq2:nsIn K mainGlobals "MARK_SIGNS" = some (some (.str x_MARK_SIGNS t_MARK_SIGNS)))
 (Zq9:x_MARK_SIGNS=tx cs_MARK_SIGNS)
 (Zq1:nsIn K mainGlobals "FIGURES" = some (some (.str x_FIGURES t_FIGURES)))
 (Zq3:x_FIGURES=tx Zat)
 (ZqJ:PySem.W.plainGet K c_Rule Str.empty=true)
 (ZmW:PySem.W.hasDictIn K c_Rule=true)
 (ZqQ:PySem.W.plainOver K c_Rule=true)
 (ZqY:PySem.W.findIn K (.ref c_Rule) "__setattr__" = some (some (.builtin "object.__setattr__")))
 (ZmP:PySem.W.findIn K (.ref c_Rule) "__class__" = some (some (.builtin "object.__class__")))
 (Zm3:PySem.W.mroIn K c_Rule (.type "object")=some true)
 (ZpC:PySem.W.makesIn K c_Rule=true)
 (Zpg:keepIn K (.ref c_Rule)=true)
 (Zpv:PySem.W.findIn K (.ref c_Rule) "__init__" = some (some (.ref f4)))
 (Zpo:isFn K (.ref f4)=true)
 (ZqH:PySem.W.plainGet K c_Gap Str.empty=true)
 (ZmU:PySem.W.hasDictIn K c_Gap=true)
 (ZqO:PySem.W.plainOver K c_Gap=true)
 (ZqW:PySem.W.findIn K (.ref c_Gap) "__setattr__" = some (some (.builtin "object.__setattr__")))
 (ZmN:PySem.W.findIn K (.ref c_Gap) "__class__" = some (some (.builtin "object.__class__")))
 (Zm1:PySem.W.mroIn K c_Gap (.type "object")=some true)
 (ZpA:PySem.W.makesIn K c_Gap=true)
 (Zpe:keepIn K (.ref c_Gap)=true)
 (Zpt:PySem.W.findIn K (.ref c_Gap) "__init__" = some (some (.ref f5)))
 (Zpm:isFn K (.ref f5)=true)
 (ZqI:PySem.W.plainGet K c_Never Str.empty=true)
 (ZmV:PySem.W.hasDictIn K c_Never=true)
 (ZqP:PySem.W.plainOver K c_Never=true)
 (ZqX:PySem.W.findIn K (.ref c_Never) "__setattr__" = some (some (.builtin "object.__setattr__")))
 (ZmO:PySem.W.findIn K (.ref c_Never) "__class__" = some (some (.builtin "object.__class__")))
 (Zm2:PySem.W.mroIn K c_Never (.type "object")=some true)
 (ZpB:PySem.W.makesIn K c_Never=true)
 (Zpf:keepIn K (.ref c_Never)=true)
 (Zpu:PySem.W.findIn K (.ref c_Never) "__init__" = some (some (.ref f6)))
 (Zpn:isFn K (.ref f6)=true)
 (ZqK:PySem.W.plainGet K c_Sum Str.empty=true)
 (ZmX:PySem.W.hasDictIn K c_Sum=true)
 (ZqR:PySem.W.plainOver K c_Sum=true)
 (ZqZ:PySem.W.findIn K (.ref c_Sum) "__setattr__" = some (some (.builtin "object.__setattr__")))
 (ZmQ:PySem.W.findIn K (.ref c_Sum) "__class__" = some (some (.builtin "object.__class__")))
 (Zm4:PySem.W.mroIn K c_Sum (.type "object")=some true)
 (ZpD:PySem.W.makesIn K c_Sum=true)
 (Zph:keepIn K (.ref c_Sum)=true)
 (Zpw:PySem.W.findIn K (.ref c_Sum) "__init__" = some (some (.ref f7)))
 (Zpp:isFn K (.ref f7)=true)
 (ZqL:PySem.W.plainGet K c_Turn Str.empty=true)
 (ZmY:PySem.W.hasDictIn K c_Turn=true)
 (ZqS:PySem.W.plainOver K c_Turn=true)
 (Zq0:PySem.W.findIn K (.ref c_Turn) "__setattr__" = some (some (.builtin "object.__setattr__")))
 (ZmR:PySem.W.findIn K (.ref c_Turn) "__class__" = some (some (.builtin "object.__class__")))
 (Zm5:PySem.W.mroIn K c_Turn (.type "object")=some true)
 (ZpE:PySem.W.makesIn K c_Turn=true)
 (Zpi:keepIn K (.ref c_Turn)=true)
 (Zpx:PySem.W.findIn K (.ref c_Turn) "__init__" = some (some (.ref f8)))
 (Zpq:isFn K (.ref f8)=true)
 (ZqF:PySem.W.plainGet K c_Alike Str.empty=true)
 (ZmS:PySem.W.hasDictIn K c_Alike=true)
 (ZqM:PySem.W.plainOver K c_Alike=true)
 (ZqU:PySem.W.findIn K (.ref c_Alike) "__setattr__" = some (some (.builtin "object.__setattr__")))
 (ZmL:PySem.W.findIn K (.ref c_Alike) "__class__" = some (some (.builtin "object.__class__")))
 (ZmZ:PySem.W.mroIn K c_Alike (.type "object")=some true)
 (Zpy:PySem.W.makesIn K c_Alike=true)
 (Zpc:keepIn K (.ref c_Alike)=true)
 (Zpr:PySem.W.findIn K (.ref c_Alike) "__init__" = some (some (.ref f9)))
 (Zpk:isFn K (.ref f9)=true)
 (ZqG:PySem.W.plainGet K c_All Str.empty=true)
 (ZmT:PySem.W.hasDictIn K c_All=true)
 (ZqN:PySem.W.plainOver K c_All=true)
 (ZqV:PySem.W.findIn K (.ref c_All) "__setattr__" = some (some (.builtin "object.__setattr__")))
 (ZmM:PySem.W.findIn K (.ref c_All) "__class__" = some (some (.builtin "object.__class__")))
 (Zm0:PySem.W.mroIn K c_All (.type "object")=some true)
 (Zpz:PySem.W.makesIn K c_All=true)
 (Zpd:keepIn K (.ref c_All)=true)
 (Zps:PySem.W.findIn K (.ref c_All) "__init__" = some (some (.ref f10)))
 (Zpl:isFn K (.ref f10)=true)
 (hn_:PySem.W.specialIn K (.builtin "object.__class__") "__get__" = some (some (.builtin "getset_descriptor.__get__")))
 (htk_:PySem.W.takesIn K (.builtin "object.__class__")=some true)
 (ZmB:PySem.W.excIn K c_BadRule bmV "ValueError.__new__" = true)
 (ZmC:PySem.W.findIn K (.ref c_BadRule) "__getattribute__" = some (some (.builtin "BaseException.__getattribute__")))
 (ZmG:PySem.W.mroIn K c_BadRule (.type "BaseException")=some true)
 (ZmD:PySem.W.findIn K (.ref c_BadRule) "__getattr__" = some none)
 (ZmE:PySem.W.findIn K (.ref c_BadRule) "__class__" = some (some (.builtin "object.__class__")))
 (ZmF:PySem.W.mroIn K c_BadRule (.type "object")=some true)
 (ZmH:PySem.W.exmOne K (.ref c_BadRule) (.ref c_BadRule)=some true)
 (ZpV:PySem.W.findIn K (.ref c_Turn) "at" = some none)
 (ZpW:PySem.W.findIn K (.ref c_Turn) "every" = some none)
 (ZpR:PySem.W.findIn K (.ref c_Sum) "high" = some none)
 (ZpK:PySem.W.findIn K (.ref c_Gap) "least" = some none)
 (ZpS:PySem.W.findIn K (.ref c_Sum) "low" = some none)
 (ZpL:PySem.W.findIn K (.ref c_Gap) "mark" = some none)
 (ZpX:PySem.W.findIn K (.ref c_Turn) "mark" = some none)
 (ZpQ:PySem.W.findIn K (.ref c_Rule) "marks" = some none)
 (ZpM:PySem.W.findIn K (.ref c_Gap) "marks" = some none)
 (ZpO:PySem.W.findIn K (.ref c_Never) "marks" = some none)
 (ZpT:PySem.W.findIn K (.ref c_Sum) "marks" = some none)
 (ZpY:PySem.W.findIn K (.ref c_Turn) "marks" = some none)
 (ZpG:PySem.W.findIn K (.ref c_Alike) "marks" = some none)
 (ZpI:PySem.W.findIn K (.ref c_All) "marks" = some none)
 (ZpN:PySem.W.findIn K (.ref c_Gap) "most" = some none)
 (ZpH:PySem.W.findIn K (.ref c_Alike) "most" = some none)
 (ZpJ:PySem.W.findIn K (.ref c_All) "rules" = some none)
 (ZpP:PySem.W.findIn K (.ref c_Never) "word" = some none)
 (ZpU:PySem.W.findIn K (.ref c_Sum) "worths" = some none)
 (Zpj:PySem.W.findIn K (.ref c_All) "rules_told" = some (some (.ref f11)))
 (ZpF:isFn K (.ref f11)=true)
 (ZmJ:PySem.W.specialIn K (.ref c_Rule) "__getattribute__" = some (some (.builtin "type.__getattribute__")))
 (ZqT:PySem.W.readsIn K c_Rule (.type "type")=true)
 (ZmI:PySem.W.findCls K (.ref c_Rule) (.type "type") "__init__" = some (.val (.ref f4)))
 (ZnK:kitOne K (.type "NoneType") (.ref c_Alike)=some false)
 (Zoo:kitOne K (.type "bool") (.ref c_Alike)=some false)
 (Zoy:kitOne K (.type "int") (.ref c_Alike)=some false)
 (ZoS:kitOne K (.type "str") (.ref c_Alike)=some false)
 (ZoI:kitOne K (.type "list") (.ref c_Alike)=some false)
 (Zo2:kitOne K (.type "tuple") (.ref c_Alike)=some false)
 (ZnU:kitOne K (.ref c_Rule) (.ref c_Alike)=some false)
 (Znq:kitOne K (.ref c_Gap) (.ref c_Alike)=some false)
 (ZnA:kitOne K (.ref c_Never) (.ref c_Alike)=some false)
 (Zn4:kitOne K (.ref c_Sum) (.ref c_Alike)=some false)
 (Zoe:kitOne K (.ref c_Turn) (.ref c_Alike)=some false)
 (Zm6:kitOne K (.ref c_Alike) (.ref c_Alike)=some true)
 (Zng:kitOne K (.ref c_All) (.ref c_Alike)=some false)
 (ZnL:kitOne K (.type "NoneType") (.ref c_All)=some false)
 (Zop:kitOne K (.type "bool") (.ref c_All)=some false)
 (Zoz:kitOne K (.type "int") (.ref c_All)=some false)
 (ZoT:kitOne K (.type "str") (.ref c_All)=some false)
 (ZoJ:kitOne K (.type "list") (.ref c_All)=some false)
 (Zo3:kitOne K (.type "tuple") (.ref c_All)=some false)
 (ZnV:kitOne K (.ref c_Rule) (.ref c_All)=some false)
 (Znr:kitOne K (.ref c_Gap) (.ref c_All)=some false)
 (ZnB:kitOne K (.ref c_Never) (.ref c_All)=some false)
 (Zn5:kitOne K (.ref c_Sum) (.ref c_All)=some false)
 (Zof:kitOne K (.ref c_Turn) (.ref c_All)=some false)
 (Zm7:kitOne K (.ref c_Alike) (.ref c_All)=some false)
 (Znh:kitOne K (.ref c_All) (.ref c_All)=some true)
 (ZnM:kitOne K (.type "NoneType") (.ref c_Gap)=some false)
 (Zoq:kitOne K (.type "bool") (.ref c_Gap)=some false)
 (ZoA:kitOne K (.type "int") (.ref c_Gap)=some false)
 (ZoU:kitOne K (.type "str") (.ref c_Gap)=some false)
 (ZoK:kitOne K (.type "list") (.ref c_Gap)=some false)
 (Zo4:kitOne K (.type "tuple") (.ref c_Gap)=some false)
 (ZnW:kitOne K (.ref c_Rule) (.ref c_Gap)=some false)
 (Zns:kitOne K (.ref c_Gap) (.ref c_Gap)=some true)
 (ZnC:kitOne K (.ref c_Never) (.ref c_Gap)=some false)
 (Zn6:kitOne K (.ref c_Sum) (.ref c_Gap)=some false)
 (Zog:kitOne K (.ref c_Turn) (.ref c_Gap)=some false)
 (Zm8:kitOne K (.ref c_Alike) (.ref c_Gap)=some false)
 (Zni:kitOne K (.ref c_All) (.ref c_Gap)=some false)
 (ZnN:kitOne K (.type "NoneType") (.ref c_Never)=some false)
 (Zor:kitOne K (.type "bool") (.ref c_Never)=some false)
 (ZoB:kitOne K (.type "int") (.ref c_Never)=some false)
 (ZoV:kitOne K (.type "str") (.ref c_Never)=some false)
 (ZoL:kitOne K (.type "list") (.ref c_Never)=some false)
 (Zo5:kitOne K (.type "tuple") (.ref c_Never)=some false)
 (ZnX:kitOne K (.ref c_Rule) (.ref c_Never)=some false)
 (Znt:kitOne K (.ref c_Gap) (.ref c_Never)=some false)
 (ZnD:kitOne K (.ref c_Never) (.ref c_Never)=some true)
 (Zn7:kitOne K (.ref c_Sum) (.ref c_Never)=some false)
 (Zoh:kitOne K (.ref c_Turn) (.ref c_Never)=some false)
 (Zm9:kitOne K (.ref c_Alike) (.ref c_Never)=some false)
 (Znj:kitOne K (.ref c_All) (.ref c_Never)=some false)
 (ZnO:kitOne K (.type "NoneType") (.ref c_Sum)=some false)
 (Zos:kitOne K (.type "bool") (.ref c_Sum)=some false)
 (ZoC:kitOne K (.type "int") (.ref c_Sum)=some false)
 (ZoW:kitOne K (.type "str") (.ref c_Sum)=some false)
 (ZoM:kitOne K (.type "list") (.ref c_Sum)=some false)
 (Zo6:kitOne K (.type "tuple") (.ref c_Sum)=some false)
 (ZnY:kitOne K (.ref c_Rule) (.ref c_Sum)=some false)
 (Znu:kitOne K (.ref c_Gap) (.ref c_Sum)=some false)
 (ZnE:kitOne K (.ref c_Never) (.ref c_Sum)=some false)
 (Zn8:kitOne K (.ref c_Sum) (.ref c_Sum)=some true)
 (Zoi:kitOne K (.ref c_Turn) (.ref c_Sum)=some false)
 (Zna:kitOne K (.ref c_Alike) (.ref c_Sum)=some false)
 (Znk:kitOne K (.ref c_All) (.ref c_Sum)=some false)
 (ZnP:kitOne K (.type "NoneType") (.ref c_Turn)=some false)
 (Zot:kitOne K (.type "bool") (.ref c_Turn)=some false)
 (ZoD:kitOne K (.type "int") (.ref c_Turn)=some false)
 (ZoX:kitOne K (.type "str") (.ref c_Turn)=some false)
 (ZoN:kitOne K (.type "list") (.ref c_Turn)=some false)
 (Zo7:kitOne K (.type "tuple") (.ref c_Turn)=some false)
 (ZnZ:kitOne K (.ref c_Rule) (.ref c_Turn)=some false)
 (Znv:kitOne K (.ref c_Gap) (.ref c_Turn)=some false)
 (ZnF:kitOne K (.ref c_Never) (.ref c_Turn)=some false)
 (Zn9:kitOne K (.ref c_Sum) (.ref c_Turn)=some false)
 (Zoj:kitOne K (.ref c_Turn) (.ref c_Turn)=some true)
 (Znb:kitOne K (.ref c_Alike) (.ref c_Turn)=some false)
 (Znl:kitOne K (.ref c_All) (.ref c_Turn)=some false)
 (ZnQ:kitOne K (.type "NoneType") (.type "bool")=some false)
 (Zou:kitOne K (.type "bool") (.type "bool")=some true)
 (ZoE:kitOne K (.type "int") (.type "bool")=some false)
 (ZoY:kitOne K (.type "str") (.type "bool")=some false)
 (ZoO:kitOne K (.type "list") (.type "bool")=some false)
 (Zo8:kitOne K (.type "tuple") (.type "bool")=some false)
 (Zn0:kitOne K (.ref c_Rule) (.type "bool")=some false)
 (Znw:kitOne K (.ref c_Gap) (.type "bool")=some false)
 (ZnG:kitOne K (.ref c_Never) (.type "bool")=some false)
 (Zoa:kitOne K (.ref c_Sum) (.type "bool")=some false)
 (Zok:kitOne K (.ref c_Turn) (.type "bool")=some false)
 (Znc:kitOne K (.ref c_Alike) (.type "bool")=some false)
 (Znm:kitOne K (.ref c_All) (.type "bool")=some false)
 (ZnR:kitOne K (.type "NoneType") (.type "int")=some false)
 (Zov:kitOne K (.type "bool") (.type "int")=some true)
 (ZoF:kitOne K (.type "int") (.type "int")=some true)
 (ZoZ:kitOne K (.type "str") (.type "int")=some false)
 (ZoP:kitOne K (.type "list") (.type "int")=some false)
 (Zo9:kitOne K (.type "tuple") (.type "int")=some false)
 (Zn1:kitOne K (.ref c_Rule) (.type "int")=some false)
 (Znx:kitOne K (.ref c_Gap) (.type "int")=some false)
 (ZnH:kitOne K (.ref c_Never) (.type "int")=some false)
 (Zob:kitOne K (.ref c_Sum) (.type "int")=some false)
 (Zol:kitOne K (.ref c_Turn) (.type "int")=some false)
 (Znd:kitOne K (.ref c_Alike) (.type "int")=some false)
 (Znn:kitOne K (.ref c_All) (.type "int")=some false)
 (ZnS:kitOne K (.type "NoneType") (.type "str")=some false)
 (Zow:kitOne K (.type "bool") (.type "str")=some false)
 (ZoG:kitOne K (.type "int") (.type "str")=some false)
 (Zo0:kitOne K (.type "str") (.type "str")=some true)
 (ZoQ:kitOne K (.type "list") (.type "str")=some false)
 (Zpa:kitOne K (.type "tuple") (.type "str")=some false)
 (Zn2:kitOne K (.ref c_Rule) (.type "str")=some false)
 (Zny:kitOne K (.ref c_Gap) (.type "str")=some false)
 (ZnI:kitOne K (.ref c_Never) (.type "str")=some false)
 (Zoc:kitOne K (.ref c_Sum) (.type "str")=some false)
 (Zom:kitOne K (.ref c_Turn) (.type "str")=some false)
 (Zne:kitOne K (.ref c_Alike) (.type "str")=some false)
 (Zno:kitOne K (.ref c_All) (.type "str")=some false)
 (ZnT:kitOne K (.type "NoneType") (.type "tuple")=some false)
 (Zox:kitOne K (.type "bool") (.type "tuple")=some false)
 (ZoH:kitOne K (.type "int") (.type "tuple")=some false)
 (Zo1:kitOne K (.type "str") (.type "tuple")=some false)
 (ZoR:kitOne K (.type "list") (.type "tuple")=some false)
 (Zpb:kitOne K (.type "tuple") (.type "tuple")=some true)
 (Zn3:kitOne K (.ref c_Rule) (.type "tuple")=some false)
 (Znz:kitOne K (.ref c_Gap) (.type "tuple")=some false)
 (ZnJ:kitOne K (.ref c_Never) (.type "tuple")=some false)
 (Zod:kitOne K (.ref c_Sum) (.type "tuple")=some false)
 (Zon:kitOne K (.ref c_Turn) (.type "tuple")=some false)
 (Znf:kitOne K (.ref c_Alike) (.type "tuple")=some false)
 (Znp:kitOne K (.ref c_All) (.type "tuple")=some false)
 : ∃fd:FuncData,(∀(s:Shared)(v:Value),BindsTo s fd ⟨[v],[]⟩ [("script",v)])/\∀base:Heap,K.In base->base.Ns mainGlobals mg->FnOk l.prog w K mg base CX0 9 fa fd ["script"] (Zfv K):=by
 cases hfa.symm.trans (mg_of X G l38.a);have F5:FunX K "__init__" "Gap.__init__" Ur f5 _:=⟨_,_,_,_,_,_,_,_,_,_,rfl,l5,c5⟩
 have b5_0:Binds K _ ["self", "marks", "mark", "least", "most"] []:=Zbu ["self", "marks", "mark", "least", "most"] (x:="__init__") (qual:="Gap.__init__") (st:=Ur) (kV:=kV5) (doc:=dc5) (pm:=pm5) (an:=an5) (cdv:=cd5) (ct:=ct5) y5 yd5 rfl λus hl=>match us,hl with|[_,_,_,_,_],_=>⟨_,rfl,rfl⟩
 have b5_1:Binds K _ ["self", "marks", "mark", "least", "most"] [.none]:=Zbu ["self", "marks", "mark", "least"] (x:="__init__") (qual:="Gap.__init__") (st:=Ur) (kV:=kV5) (doc:=dc5) (pm:=pm5) (an:=an5) (cdv:=cd5) (ct:=ct5) y5 yd5 rfl λus hl=>match us,hl with|[_,_,_,_],_=>⟨_,rfl,rfl⟩
 have F17:FunX K "gap_maker" "gap_maker" VH f17 _:=(fun_mk (st:=VH) l17 c17 k17).x;have b17:=(fun_mk (st:=VH) l17 c17 k17).binds (ps:=["words"]) λ_ _ _ _ _ _ us hl=>match us,hl with|[_],_=>rfl
 have F18:FunX K "never_maker" "never_maker" VL f18 _:=(fun_mk (st:=VL) l18 c18 k18).x;have b18:=(fun_mk (st:=VL) l18 c18 k18).binds (ps:=["words"]) λ_ _ _ _ _ _ us hl=>match us,hl with|[_],_=>rfl
 have F19:FunX K "sum_maker" "sum_maker" Vp f19 _:=(fun_mk (st:=Vp) l19 c19 k19).x;have b19:=(fun_mk (st:=Vp) l19 c19 k19).binds (ps:=["words"]) λ_ _ _ _ _ _ us hl=>match us,hl with|[_],_=>rfl
 have F20:FunX K "turn_maker" "turn_maker" VM f20 _:=(fun_mk (st:=VM) l20 c20 k20).x;have b20:=(fun_mk (st:=VM) l20 c20 k20).binds (ps:=["words"]) λ_ _ _ _ _ _ us hl=>match us,hl with|[_],_=>rfl
 have F21:FunX K "alike_maker" "alike_maker" VN f21 _:=(fun_mk (st:=VN) l21 c21 k21).x;have b21:=(fun_mk (st:=VN) l21 c21 k21).binds (ps:=["words"]) λ_ _ _ _ _ _ us hl=>match us,hl with|[_],_=>rfl
 have T:Txt w K mg ⟨f0,f1,f2,f3,f4,f5,f6,f7,f8,f9,f10,f11,f12,f13,f14,f15,f16,f17,f18,f19,f20,f21,f22,f23,f24,f25,f26,f27,f28,f29,f30,f31,f32,f33,f34,f35,f36,f37,fa,c_BadRule,c_Rule,c_Gap,c_Never,c_Sum,c_Turn,c_Alike,c_All,cn0,pt0,cn1,pt1,cn2,pt2,cn3,pt3,cn4,pt4,am_MAKERS,d0,d1,d2,d3,d4,_,d6,d7,d8,d9,d10,d11,d12,d13,d14,d15,d16,_,_,_,_,_,d22,d23,d24,d25,d26,d27,d28,d29,d30,d31,d32,d33,d34,d35,d36,d37,d38,.str x_MARK_SIGNS t_MARK_SIGNS,.str x_FIGURES t_FIGURES⟩:=⟨l0.dg X G l0.l.df,l1.dg X G l1.l.df,l2.dg X G l2.l.df,l3.dg X G l3.l.df,l4.df,F5,b5_0,b5_1,k5,l6.df,l7.df,l8.df,l9.df,l10.df,l11.df,l12.dg X G l12.l.df,l13.dg X G l13.l.df,l14.dg X G l14.l.df,l15.dg X G l15.l.df,l16.dg X G l16.l.df,F17,b17,mg_of X G a17,k17,F18,b18,mg_of X G a18,k18,F19,b19,mg_of X G a19,k19,F20,b20,mg_of X G a20,k20,F21,b21,mg_of X G a21,k21,l22.dg X G l22.l.df,l23.dg X G l23.l.df,l24.dg X G l24.l.df,l25.dg X G l25.l.df,l26.dg X G l26.l.df,l27.dg X G l27.l.df,l28.dg X G l28.l.df,l29.dg X G l29.l.df,l30.dg X G l30.l.df,l31.dg X G l31.l.df,l32.dg X G l32.l.df,l33.dg X G l33.l.df,l34.dg X G l34.l.df,l35.dg X G l35.l.df,l36.dg X G l36.l.df,l37.dg X G l37.l.df,l38.dg X G l38.l.df,Zqa,Ju X G Zp5 Zqf Zqk Zqp Zqu Zqz Zp0 nk8_ nk9_ ZpZ,nt_0,Zqb,Ju X G Zp6 Zqg Zql Zqq Zqv ZqA Zp1 nk8_ nk9_ ZpZ,nt_1,Zqc,Ju X G Zp7 Zqh Zqm Zqr Zqw ZqB Zp2 nk8_ nk9_ ZpZ,nt_2,Zqd,Ju X G Zp8 Zqi Zqn Zqs Zqx ZqC Zp3 nk8_ nk9_ ZpZ,nt_3,Zqe,Ju X G Zp9 Zqj Zqo Zqt Zqy ZqD Zp4 nk8_ nk9_ ZpZ,nt_4,mg_of X G ZmK,(λP=>MkD.of (n:=nm_MAKERS) (ts:=[tm0,tm1,tm2,tm3,tm4]) (by subst Zq4 Zq5 Zq6 Zq7 Zq8;exact ZmA) rfl (show List.Nodup [tx [103,97,112],tx [110,101,118,101,114],tx [115,117,109],tx [116,117,114,110],tx [97,108,105,107,101]] by decide +kernel) ZqE),mg_none_of X G Zri,mg_none_of X G Zrj,mg_none_of X G Zrk,mg_none_of X G Zrl,mg_none_of X G Zrm,mg_none_of X G Zrn,mg_none_of X G Zro,mg_none_of X G Zrp,mg_none_of X G Zrq,mg_none_of X G Zrr,mg_none_of X G Zrs,mg_none_of X G Zrt,mg_none_of X G Zru,mg_none_of X G Zrv,mg_of X G Zq2,⟨_,by rw [Zq9]⟩,mg_of X G Zq1,⟨_,by rw [Zq3]⟩,mg_of X G Zrf,⟨ZqJ,ZmW,ZqQ,ZqY⟩,⟨⟨ZqJ,ZmW,ZqQ,ZqY⟩,ZmP,hn_,htk_,Zm3⟩,⟨ZpC,Zpv,Zpo,Zpg⟩,mg_of X G Zrd,⟨ZqH,ZmU,ZqO,ZqW⟩,⟨⟨ZqH,ZmU,ZqO,ZqW⟩,ZmN,hn_,htk_,Zm1⟩,⟨ZpA,Zpt,Zpm,Zpe⟩,mg_of X G Zre,⟨ZqI,ZmV,ZqP,ZqX⟩,⟨⟨ZqI,ZmV,ZqP,ZqX⟩,ZmO,hn_,htk_,Zm2⟩,⟨ZpB,Zpu,Zpn,Zpf⟩,mg_of X G Zrg,⟨ZqK,ZmX,ZqR,ZqZ⟩,⟨⟨ZqK,ZmX,ZqR,ZqZ⟩,ZmQ,hn_,htk_,Zm4⟩,⟨ZpD,Zpw,Zpp,Zph⟩,mg_of X G Zrh,⟨ZqL,ZmY,ZqS,Zq0⟩,⟨⟨ZqL,ZmY,ZqS,Zq0⟩,ZmR,hn_,htk_,Zm5⟩,⟨ZpE,Zpx,Zpq,Zpi⟩,mg_of X G Zra,⟨ZqF,ZmS,ZqM,ZqU⟩,⟨⟨ZqF,ZmS,ZqM,ZqU⟩,ZmL,hn_,htk_,ZmZ⟩,⟨Zpy,Zpr,Zpk,Zpc⟩,mg_of X G Zrb,⟨ZqG,ZmT,ZqN,ZqV⟩,⟨⟨ZqG,ZmT,ZqN,ZqV⟩,ZmM,hn_,htk_,Zm0⟩,⟨Zpz,Zps,Zpl,Zpd⟩,(by intro c hc;simp only [U6,List.mem_cons,List.mem_nil_iff,or_false]at hc;rcases hc with rfl<;>first|exact⟨⟨ZqL,ZmY,ZqS,Zq0⟩,ZpV⟩),(by intro c hc;simp only [U7,List.mem_cons,List.mem_nil_iff,or_false]at hc;rcases hc with rfl<;>first|exact⟨⟨ZqL,ZmY,ZqS,Zq0⟩,ZpW⟩),(by intro c hc;simp only [Uo,List.mem_cons,List.mem_nil_iff,or_false]at hc;rcases hc with rfl<;>first|exact⟨⟨ZqK,ZmX,ZqR,ZqZ⟩,ZpR⟩),(by intro c hc;simp only [UB,List.mem_cons,List.mem_nil_iff,or_false]at hc;rcases hc with rfl<;>first|exact⟨⟨ZqH,ZmU,ZqO,ZqW⟩,ZpK⟩),(by intro c hc;simp only [Up,List.mem_cons,List.mem_nil_iff,or_false]at hc;rcases hc with rfl<;>first|exact⟨⟨ZqK,ZmX,ZqR,ZqZ⟩,ZpS⟩),(by intro c hc;simp only [Vf,List.mem_cons,List.mem_nil_iff,or_false]at hc;rcases hc with rfl|rfl<;>first|exact⟨⟨ZqH,ZmU,ZqO,ZqW⟩,ZpL⟩|exact⟨⟨ZqL,ZmY,ZqS,Zq0⟩,ZpX⟩),(by intro c hc;simp only [fc_marks,List.mem_cons,List.mem_nil_iff,or_false]at hc;rcases hc with rfl|rfl|rfl|rfl|rfl|rfl|rfl<;>first|exact⟨⟨ZqJ,ZmW,ZqQ,ZqY⟩,ZpQ⟩|exact⟨⟨ZqH,ZmU,ZqO,ZqW⟩,ZpM⟩|exact⟨⟨ZqI,ZmV,ZqP,ZqX⟩,ZpO⟩|exact⟨⟨ZqK,ZmX,ZqR,ZqZ⟩,ZpT⟩|exact⟨⟨ZqL,ZmY,ZqS,Zq0⟩,ZpY⟩|exact⟨⟨ZqF,ZmS,ZqM,ZqU⟩,ZpG⟩|exact⟨⟨ZqG,ZmT,ZqN,ZqV⟩,ZpI⟩),(by intro c hc;simp only [Xw,List.mem_cons,List.mem_nil_iff,or_false]at hc;rcases hc with rfl|rfl<;>first|exact⟨⟨ZqH,ZmU,ZqO,ZqW⟩,ZpN⟩|exact⟨⟨ZqF,ZmS,ZqM,ZqU⟩,ZpH⟩),(by intro c hc;exact absurd hc (by simp [ZgD])),(by intro c hc;simp only [Jy,List.mem_cons,List.mem_nil_iff,or_false]at hc;rcases hc with rfl<;>first|exact⟨⟨ZqG,ZmT,ZqN,ZqV⟩,ZpJ⟩),(by intro c hc;simp only [U8,List.mem_cons,List.mem_nil_iff,or_false]at hc;rcases hc with rfl<;>first|exact⟨⟨ZqI,ZmV,ZqP,ZqX⟩,ZpP⟩),(by intro c hc;simp only [Uq,List.mem_cons,List.mem_nil_iff,or_false]at hc;rcases hc with rfl<;>first|exact⟨⟨ZqK,ZmX,ZqR,ZqZ⟩,ZpU⟩),mg_of X G Zrc,.of ZmB ZmC ZmG ZmD ZmE hn_ htk_ ZmF,(by intro c hc;simp only [List.mem_cons,List.mem_nil_iff,or_false]at hc;rcases hc with rfl<;>first|exact⟨.of ZmB ZmC ZmG ZmD ZmE hn_ htk_ ZmF,ZmH⟩),⟨Zpj,ZpF,l11.kp⟩,⟨ZmJ,ZqT,ZmI,l4.kp⟩,V2 (by intro p hp;simp only [QG,List.mem_cons,List.mem_nil_iff,or_false]at hp;rcases hp with rfl|rfl|rfl|rfl|rfl|rfl|rfl|rfl|rfl|rfl|rfl|rfl|rfl<;>first|exact ZnK|exact Zoo|exact Zoy|exact ZoS|exact ZoI|exact Zo2|exact⟨ZnU,⟨ZqJ,ZmW,ZqQ,ZqY⟩,ZmP,hn_,htk_,Zm3⟩|exact⟨Znq,⟨ZqH,ZmU,ZqO,ZqW⟩,ZmN,hn_,htk_,Zm1⟩|exact⟨ZnA,⟨ZqI,ZmV,ZqP,ZqX⟩,ZmO,hn_,htk_,Zm2⟩|exact⟨Zn4,⟨ZqK,ZmX,ZqR,ZqZ⟩,ZmQ,hn_,htk_,Zm4⟩|exact⟨Zoe,⟨ZqL,ZmY,ZqS,Zq0⟩,ZmR,hn_,htk_,Zm5⟩|exact⟨Zm6,⟨ZqF,ZmS,ZqM,ZqU⟩,ZmL,hn_,htk_,ZmZ⟩|exact⟨Zng,⟨ZqG,ZmT,ZqN,ZqV⟩,ZmM,hn_,htk_,Zm0⟩),V2 (by intro p hp;simp only [U9,List.mem_cons,List.mem_nil_iff,or_false]at hp;rcases hp with rfl|rfl|rfl|rfl|rfl|rfl|rfl|rfl|rfl|rfl|rfl|rfl|rfl<;>first|exact ZnL|exact Zop|exact Zoz|exact ZoT|exact ZoJ|exact Zo3|exact⟨ZnV,⟨ZqJ,ZmW,ZqQ,ZqY⟩,ZmP,hn_,htk_,Zm3⟩|exact⟨Znr,⟨ZqH,ZmU,ZqO,ZqW⟩,ZmN,hn_,htk_,Zm1⟩|exact⟨ZnB,⟨ZqI,ZmV,ZqP,ZqX⟩,ZmO,hn_,htk_,Zm2⟩|exact⟨Zn5,⟨ZqK,ZmX,ZqR,ZqZ⟩,ZmQ,hn_,htk_,Zm4⟩|exact⟨Zof,⟨ZqL,ZmY,ZqS,Zq0⟩,ZmR,hn_,htk_,Zm5⟩|exact⟨Zm7,⟨ZqF,ZmS,ZqM,ZqU⟩,ZmL,hn_,htk_,ZmZ⟩|exact⟨Znh,⟨ZqG,ZmT,ZqN,ZqV⟩,ZmM,hn_,htk_,Zm0⟩),V2 (by intro p hp;simp only [QH,List.mem_cons,List.mem_nil_iff,or_false]at hp;rcases hp with rfl|rfl|rfl|rfl|rfl|rfl|rfl|rfl|rfl|rfl|rfl|rfl|rfl<;>first|exact ZnM|exact Zoq|exact ZoA|exact ZoU|exact ZoK|exact Zo4|exact⟨ZnW,⟨ZqJ,ZmW,ZqQ,ZqY⟩,ZmP,hn_,htk_,Zm3⟩|exact⟨Zns,⟨ZqH,ZmU,ZqO,ZqW⟩,ZmN,hn_,htk_,Zm1⟩|exact⟨ZnC,⟨ZqI,ZmV,ZqP,ZqX⟩,ZmO,hn_,htk_,Zm2⟩|exact⟨Zn6,⟨ZqK,ZmX,ZqR,ZqZ⟩,ZmQ,hn_,htk_,Zm4⟩|exact⟨Zog,⟨ZqL,ZmY,ZqS,Zq0⟩,ZmR,hn_,htk_,Zm5⟩|exact⟨Zm8,⟨ZqF,ZmS,ZqM,ZqU⟩,ZmL,hn_,htk_,ZmZ⟩|exact⟨Zni,⟨ZqG,ZmT,ZqN,ZqV⟩,ZmM,hn_,htk_,Zm0⟩),V2 (by intro p hp;simp only [QI,List.mem_cons,List.mem_nil_iff,or_false]at hp;rcases hp with rfl|rfl|rfl|rfl|rfl|rfl|rfl|rfl|rfl|rfl|rfl|rfl|rfl<;>first|exact ZnN|exact Zor|exact ZoB|exact ZoV|exact ZoL|exact Zo5|exact⟨ZnX,⟨ZqJ,ZmW,ZqQ,ZqY⟩,ZmP,hn_,htk_,Zm3⟩|exact⟨Znt,⟨ZqH,ZmU,ZqO,ZqW⟩,ZmN,hn_,htk_,Zm1⟩|exact⟨ZnD,⟨ZqI,ZmV,ZqP,ZqX⟩,ZmO,hn_,htk_,Zm2⟩|exact⟨Zn7,⟨ZqK,ZmX,ZqR,ZqZ⟩,ZmQ,hn_,htk_,Zm4⟩|exact⟨Zoh,⟨ZqL,ZmY,ZqS,Zq0⟩,ZmR,hn_,htk_,Zm5⟩|exact⟨Zm9,⟨ZqF,ZmS,ZqM,ZqU⟩,ZmL,hn_,htk_,ZmZ⟩|exact⟨Znj,⟨ZqG,ZmT,ZqN,ZqV⟩,ZmM,hn_,htk_,Zm0⟩),V2 (by intro p hp;simp only [QJ,List.mem_cons,List.mem_nil_iff,or_false]at hp;rcases hp with rfl|rfl|rfl|rfl|rfl|rfl|rfl|rfl|rfl|rfl|rfl|rfl|rfl<;>first|exact ZnO|exact Zos|exact ZoC|exact ZoW|exact ZoM|exact Zo6|exact⟨ZnY,⟨ZqJ,ZmW,ZqQ,ZqY⟩,ZmP,hn_,htk_,Zm3⟩|exact⟨Znu,⟨ZqH,ZmU,ZqO,ZqW⟩,ZmN,hn_,htk_,Zm1⟩|exact⟨ZnE,⟨ZqI,ZmV,ZqP,ZqX⟩,ZmO,hn_,htk_,Zm2⟩|exact⟨Zn8,⟨ZqK,ZmX,ZqR,ZqZ⟩,ZmQ,hn_,htk_,Zm4⟩|exact⟨Zoi,⟨ZqL,ZmY,ZqS,Zq0⟩,ZmR,hn_,htk_,Zm5⟩|exact⟨Zna,⟨ZqF,ZmS,ZqM,ZqU⟩,ZmL,hn_,htk_,ZmZ⟩|exact⟨Znk,⟨ZqG,ZmT,ZqN,ZqV⟩,ZmM,hn_,htk_,Zm0⟩),V2 (by intro p hp;simp only [QK,List.mem_cons,List.mem_nil_iff,or_false]at hp;rcases hp with rfl|rfl|rfl|rfl|rfl|rfl|rfl|rfl|rfl|rfl|rfl|rfl|rfl<;>first|exact ZnP|exact Zot|exact ZoD|exact ZoX|exact ZoN|exact Zo7|exact⟨ZnZ,⟨ZqJ,ZmW,ZqQ,ZqY⟩,ZmP,hn_,htk_,Zm3⟩|exact⟨Znv,⟨ZqH,ZmU,ZqO,ZqW⟩,ZmN,hn_,htk_,Zm1⟩|exact⟨ZnF,⟨ZqI,ZmV,ZqP,ZqX⟩,ZmO,hn_,htk_,Zm2⟩|exact⟨Zn9,⟨ZqK,ZmX,ZqR,ZqZ⟩,ZmQ,hn_,htk_,Zm4⟩|exact⟨Zoj,⟨ZqL,ZmY,ZqS,Zq0⟩,ZmR,hn_,htk_,Zm5⟩|exact⟨Znb,⟨ZqF,ZmS,ZqM,ZqU⟩,ZmL,hn_,htk_,ZmZ⟩|exact⟨Znl,⟨ZqG,ZmT,ZqN,ZqV⟩,ZmM,hn_,htk_,Zm0⟩),V2 (by intro p hp;simp only [QL,List.mem_cons,List.mem_nil_iff,or_false]at hp;rcases hp with rfl|rfl|rfl|rfl|rfl|rfl|rfl|rfl|rfl|rfl|rfl|rfl|rfl<;>first|exact ZnQ|exact Zou|exact ZoE|exact ZoY|exact ZoO|exact Zo8|exact⟨Zn0,⟨ZqJ,ZmW,ZqQ,ZqY⟩,ZmP,hn_,htk_,Zm3⟩|exact⟨Znw,⟨ZqH,ZmU,ZqO,ZqW⟩,ZmN,hn_,htk_,Zm1⟩|exact⟨ZnG,⟨ZqI,ZmV,ZqP,ZqX⟩,ZmO,hn_,htk_,Zm2⟩|exact⟨Zoa,⟨ZqK,ZmX,ZqR,ZqZ⟩,ZmQ,hn_,htk_,Zm4⟩|exact⟨Zok,⟨ZqL,ZmY,ZqS,Zq0⟩,ZmR,hn_,htk_,Zm5⟩|exact⟨Znc,⟨ZqF,ZmS,ZqM,ZqU⟩,ZmL,hn_,htk_,ZmZ⟩|exact⟨Znm,⟨ZqG,ZmT,ZqN,ZqV⟩,ZmM,hn_,htk_,Zm0⟩),V2 (by intro p hp;simp only [Jz,List.mem_cons,List.mem_nil_iff,or_false]at hp;rcases hp with rfl|rfl|rfl|rfl|rfl|rfl|rfl|rfl|rfl|rfl|rfl|rfl|rfl<;>first|exact ZnR|exact Zov|exact ZoF|exact ZoZ|exact ZoP|exact Zo9|exact⟨Zn1,⟨ZqJ,ZmW,ZqQ,ZqY⟩,ZmP,hn_,htk_,Zm3⟩|exact⟨Znx,⟨ZqH,ZmU,ZqO,ZqW⟩,ZmN,hn_,htk_,Zm1⟩|exact⟨ZnH,⟨ZqI,ZmV,ZqP,ZqX⟩,ZmO,hn_,htk_,Zm2⟩|exact⟨Zob,⟨ZqK,ZmX,ZqR,ZqZ⟩,ZmQ,hn_,htk_,Zm4⟩|exact⟨Zol,⟨ZqL,ZmY,ZqS,Zq0⟩,ZmR,hn_,htk_,Zm5⟩|exact⟨Znd,⟨ZqF,ZmS,ZqM,ZqU⟩,ZmL,hn_,htk_,ZmZ⟩|exact⟨Znn,⟨ZqG,ZmT,ZqN,ZqV⟩,ZmM,hn_,htk_,Zm0⟩),V2 (by intro p hp;simp only [Zc3,List.mem_cons,List.mem_nil_iff,or_false]at hp;rcases hp with rfl|rfl|rfl|rfl|rfl|rfl|rfl|rfl|rfl|rfl|rfl|rfl|rfl<;>first|exact ZnS|exact Zow|exact ZoG|exact Zo0|exact ZoQ|exact Zpa|exact⟨Zn2,⟨ZqJ,ZmW,ZqQ,ZqY⟩,ZmP,hn_,htk_,Zm3⟩|exact⟨Zny,⟨ZqH,ZmU,ZqO,ZqW⟩,ZmN,hn_,htk_,Zm1⟩|exact⟨ZnI,⟨ZqI,ZmV,ZqP,ZqX⟩,ZmO,hn_,htk_,Zm2⟩|exact⟨Zoc,⟨ZqK,ZmX,ZqR,ZqZ⟩,ZmQ,hn_,htk_,Zm4⟩|exact⟨Zom,⟨ZqL,ZmY,ZqS,Zq0⟩,ZmR,hn_,htk_,Zm5⟩|exact⟨Zne,⟨ZqF,ZmS,ZqM,ZqU⟩,ZmL,hn_,htk_,ZmZ⟩|exact⟨Zno,⟨ZqG,ZmT,ZqN,ZqV⟩,ZmM,hn_,htk_,Zm0⟩),V2 (by intro p hp;simp only [JA,List.mem_cons,List.mem_nil_iff,or_false]at hp;rcases hp with rfl|rfl|rfl|rfl|rfl|rfl|rfl|rfl|rfl|rfl|rfl|rfl|rfl<;>first|exact ZnT|exact Zox|exact ZoH|exact Zo1|exact ZoR|exact Zpb|exact⟨Zn3,⟨ZqJ,ZmW,ZqQ,ZqY⟩,ZmP,hn_,htk_,Zm3⟩|exact⟨Znz,⟨ZqH,ZmU,ZqO,ZqW⟩,ZmN,hn_,htk_,Zm1⟩|exact⟨ZnJ,⟨ZqI,ZmV,ZqP,ZqX⟩,ZmO,hn_,htk_,Zm2⟩|exact⟨Zod,⟨ZqK,ZmX,ZqR,ZqZ⟩,ZmQ,hn_,htk_,Zm4⟩|exact⟨Zon,⟨ZqL,ZmY,ZqS,Zq0⟩,ZmR,hn_,htk_,Zm5⟩|exact⟨Znf,⟨ZqF,ZmS,ZqM,ZqU⟩,ZmL,hn_,htk_,ZmZ⟩|exact⟨Znp,⟨ZqG,ZmT,ZqN,ZqV⟩,ZmM,hn_,htk_,Zm0⟩)⟩
 obtain⟨_,_,_,_,_,_,_,_,_,rfl,_⟩:=l38.l.ex;exact⟨_,λs v => .of_eq rfl,λbase _ _=>ZiY hall T⟩
theorem walk {l:PySem.W.OpenLaw} {q:Program} {loose:List Str} {XP:(Str->Option Value)->Heap->Prop} {YP:World->Heap->Prop} {d:DefRec} {K:Params->PySem.W.Frag} (hn:l.most=some 63) (hdf:d.params.defaults=[])
 {tabs:List (Addr×Str)} (hY:∀(w:World)(h:Heap),YP w h->(K w.params).In h/\∀q∈tabs,h.get? q.1=some (PySem.W.tabObj #[])) (hT:∀w:World,Xe (K w.params)=tabs) (hL:∀q∈tabs,tabs.lookup q.1=some q.2) (hKP:∀w:World,∀q∈tabs,(K w.params).lookup q.1=none)
 (hct:∀w:World,∀q∈tabs,∃c o vs,(K w.params).lookup c=some o/\o.cls = .type "code" /\ o.data = .fields vs/\vs[11]? = some (.ref q.1))
 (F:∀(w:World)(mg:Str->Option Value)(fa:Addr)(h:Heap),(K w.params).In h->h.Ns mainGlobals mg->mg d.name=some (.ref fa) ->
   ∃fd:FuncData,(∀(s:Shared)(u:Value),BindsTo s fd ⟨[u],[]⟩ [("script",u)])/\∀base:Heap,(K w.params).In base->base.Ns mainGlobals mg->FnOk l.prog w (K w.params) mg base CX0 9 fa fd ["script"] (Zfv (K w.params))) :
 PySem.W.WalkO q loose XP YP l.row.toRowW d [] (λf vs=>PySem.call f vs):=
 L2.walk_ofN (n:=63) (k:=9) (x:="script") (CX:=λ_=>CX0) (sp:=λw=>Zfv (K w.params)) hn (by decide) hdf ⟨rfl,by decide,by decide⟩ hY hT hL hKP hct F (λ_ _ a ns hl hS=>⟨a,ns,rfl,hS,hl,λ_=>rfl⟩) λ_ _ _ _ _ z=>z
theorem kA_in(w:World)(h:Heap)(Y:PySem.W.InK K09.kA w h):(K09.kP w.params).In h/\∀q∈K09.tabs,h.get? q.1=some (PySem.W.tabObj #[]):=by
 have e:K09.kP w.params=(K09.kP w.params).take 126++([(nat_lit 3,⟨(.str "gap_maker.<locals>.<lambda>" 0),some 383,.plain,#[]⟩),(nat_lit 3,⟨(.str "never_maker.<locals>.<lambda>" 0),some 390,.plain,#[]⟩),(nat_lit 3,⟨(.str "sum_maker.<locals>.<lambda>" 0),some 397,.plain,#[]⟩),(nat_lit 3,⟨(.str "turn_maker.<locals>.<lambda>" 0),some 402,.plain,#[]⟩),(nat_lit 3,⟨(.str "alike_maker.<locals>.<lambda>" 0),some 409,.plain,#[]⟩)]:PySem.W.Frag):=by kernel_rfl
 have hm:(([(nat_lit 3,⟨(.str "gap_maker.<locals>.<lambda>" 0),some 383,.plain,#[]⟩),(nat_lit 3,⟨(.str "never_maker.<locals>.<lambda>" 0),some 390,.plain,#[]⟩),(nat_lit 3,⟨(.str "sum_maker.<locals>.<lambda>" 0),some 397,.plain,#[]⟩),(nat_lit 3,⟨(.str "turn_maker.<locals>.<lambda>" 0),some 402,.plain,#[]⟩),(nat_lit 3,⟨(.str "alike_maker.<locals>.<lambda>" 0),some 409,.plain,#[]⟩)]:PySem.W.Frag).all λp=>(((K09.kP w.params).take 126:PySem.W.Frag).lookup p.1).isSome)=true:=by kernel_rfl
 have hx:(([(383,PySem.W.tabObj #[]),(390,PySem.W.tabObj #[]),(397,PySem.W.tabObj #[]),(402,PySem.W.tabObj #[]),(409,PySem.W.tabObj #[])]:PySem.W.Frag).all λp=>(((K09.kP w.params).take 126:PySem.W.Frag).lookup p.1).isNone)=true:=by kernel_rfl
 obtain⟨h1,h2⟩:=L2.in_marks (I:=(K09.kP w.params).take 126) (J:=[(383,PySem.W.tabObj #[]),(390,PySem.W.tabObj #[]),(397,PySem.W.tabObj #[]),(402,PySem.W.tabObj #[]),(409,PySem.W.tabObj #[])]) (M:=[(nat_lit 3,⟨(.str "gap_maker.<locals>.<lambda>" 0),some 383,.plain,#[]⟩),(nat_lit 3,⟨(.str "never_maker.<locals>.<lambda>" 0),some 390,.plain,#[]⟩),(nat_lit 3,⟨(.str "sum_maker.<locals>.<lambda>" 0),some 397,.plain,#[]⟩),(nat_lit 3,⟨(.str "turn_maker.<locals>.<lambda>" 0),some 402,.plain,#[]⟩),(nat_lit 3,⟨(.str "alike_maker.<locals>.<lambda>" 0),some 409,.plain,#[]⟩)]) (List.all_eq_true.mp hm) (λp hp=>⟨Option.isNone_iff_eq_none.mp (List.all_eq_true.mp hx p hp),by
  simp only [List.mem_cons,List.mem_nil_iff,or_false]at hp;rcases hp with rfl|rfl|rfl|rfl|rfl<;>rfl⟩) Y
 rw [e];refine⟨h1,λq hq => ?_⟩;simp only [K09.tabs,List.mem_cons,List.mem_nil_iff,or_false]at hq;rcases hq with rfl|rfl|rfl|rfl|rfl
 · exact h2 (383,PySem.W.tabObj #[]) (by simp)
 · exact h2 (390,PySem.W.tabObj #[]) (by simp)
 · exact h2 (397,PySem.W.tabObj #[]) (by simp)
 · exact h2 (402,PySem.W.tabObj #[]) (by simp)
 · exact h2 (409,PySem.W.tabObj #[]) (by simp)
theorem tabs_look:∀q∈K09.tabs,K09.tabs.lookup q.1=some q.2:=by decide +kernel
theorem kP_no(w:World):∀q∈K09.tabs,(K09.kP w.params).lookup q.1=none:=λq hq=>by
 have hx:(K09.tabs.all λp=>((K09.kP w.params).lookup p.1).isNone)=true:=by kernel_rfl
 exact Option.isNone_iff_eq_none.mp (List.all_eq_true.mp hx q hq)
theorem kP_cod(w:World):∀q∈K09.tabs,∃c o vs,(K09.kP w.params).lookup c=some o/\o.cls = .type "code" /\ o.data = .fields vs/\vs[11]? = some (.ref q.1):=λq hq=>by
 simp only [K09.tabs,List.mem_cons,List.mem_nil_iff,or_false]at hq;rcases hq with rfl|rfl|rfl|rfl|rfl
 · exact⟨387,HT.c3 "gap_maker" "gap_maker" 682 186 1 3 382 383 (.ref 384) (.ref 385) 386 689 690,_,by kernel_rfl,rfl,rfl,rfl⟩
 · exact⟨394,HT.c3 "never_maker" "never_maker" 692 194 1 3 389 390 (.ref 391) (.ref 392) 393 697 698,_,by kernel_rfl,rfl,rfl,rfl⟩
 · exact⟨399,HT.c3 "sum_maker" "sum_maker" 700 198 1 3 396 397 .none .none 398 703 704,_,by kernel_rfl,rfl,rfl,rfl⟩
 · exact⟨406,HT.c3 "turn_maker" "turn_maker" 706 205 1 3 401 402 (.ref 403) (.ref 404) 405 713 714,_,by kernel_rfl,rfl,rfl,rfl⟩
 · exact⟨413,HT.c3 "alike_maker" "alike_maker" 716 213 1 3 408 409 (.ref 410) (.ref 411) 412 721 722,_,by kernel_rfl,rfl,rfl,rfl⟩
end K09
open PySem PySem.W PyProof.Rows
set_option maxRecDepth 100000 in
set_option maxHeartbeats 0 in
theorem PySem.Challenge.cw_grooveway_k09_whole_pages_there_and_back_holds : PySem.Challenge.rw_grooveway_k09_whole_pages_there_and_back.Holds := by
 w_on;o_law
 refine holds_open (r:=PySem.Challenge.rw_grooveway_k09_whole_pages_there_and_back.row) (q:=(view PySem.Challenge.pw_grooveway_k09_whole_pages_there_and_back [0,2,3,4,5,6,8,9,10,11,12,13,14,15,16,17,18,19,21,22,23,24,25,26,27,28,29,30,31,32,33,34,35,36,37,38,40,41,42,43,44,45,46,47,48,49,50])) (loose:=["Gap", "MAKERS"]) (XP:=XL (view PySem.Challenge.pw_grooveway_k09_whole_pages_there_and_back [0,2,3,4,5,6,8,9,10,11,12,13,14,15,16,17,18,19,21,22,23,24,25,26,27,28,29,30,31,32,33,34,35,36,37,38,40,41,42,43,44,45,46,47,48,49,50]) []) (YP:=InK K09.kA) K09.left (InK.of K09.kA_as) InK.keeps (λs e=>xl_of s (Bool.and_eq_true_iff.mp e).1) XL.keeps (by rfl) (by rfl) (by rfl) (λs e=>recFacts_of (Bool.and_eq_true_iff.mp e).2) (by rfl) (by assumption) (by decide +kernel) ⟨rfl,rfl,rfl,rfl,rfl,by decide +kernel⟩ ?hw ?hc
 case hw=>w_witness2
 k_fill
 refine K09.walk (l:=PySem.Challenge.rw_grooveway_k09_whole_pages_there_and_back) rfl rfl (λw h Y=>K09.kA_in w h Y) (λ_=>K09.kP_tabs _) K09.tabs_look K09.kP_no K09.kP_cod ?F
 case F=>
  intro w mg fa h KX G hmg
  k_fill
  refine' K09.all_mk K09.all_true KX G hmg ..
  any_goals first|k_is|kit_is|k_exc|kts_exm|rfl|kernel_rfl|decide +kernel|(rw [K09.kP_tabs];simp)|(refine' L2.Fg.of ?_ ?_ ?_ ?_<;>first|k_is|skip)|(refine' L2.fun_mk ?_ ?_ ?_<;>first|k_is|skip)|skip
