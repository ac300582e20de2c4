import PyProof.Rows.All
import Wide.All
import OpenK.AllK
import Wide.FinOn
import Lean
import PyProof.EqAt
import PyProof.EqKinds
import PyProof.TupleCall
import PyProof.Rows.StrCountLaw
import PyProof.Rows.StrFirst
import PyProof.Rows.StrLast
import PyProof.Rows.StrNews2
import PyProof.Rows.StrSplitCount
import PyProof.StrBlockI
import PyProof.StrLawsIn
import PyProof.StrLawsLast
import PyProof.EnumMake
import PyProof.FString
import PyProof.ReprStr
import PyProof.StrLawsRepr
import PyProof.ListStr
import PyProof.ListRange
import PySem.Challenge.RW_grooveway_k39_whole_webs_finished
set_option Elab.async false
set_option linter.all false
set_option maxRecDepth 100000
set_option maxHeartbeats 4000000
open PySem.W (keepIn nsIn mg_of fnOf codeIn kitOne mg_none_of isFn instObj emptyDict)
namespace L2
open PySem PySem.Spec PyProof.Rows
abbrev Key:=Sum Int Str
def U7:Key->Value->Bool
 | .inl k,v=>Value.isInt k v
 | .inr x,v=>Value.isStrOf x v
def Zmk(w:World):Key->Int
 | .inl k=>hashInt k
 | .inr x=>hashStr w x
theorem VQ:∀{k:Key}{v:Value},U7 k v=true->(∃i t,k=Sum.inl i/\v=Value.int i t)\/(∃x t,k=Sum.inr x/\v=Value.str x t)
 | .inl i,v,h=>by
  obtain⟨t,e⟩:=Value.isInt_shape (k:=i) (v:=v) h;exact .inl ⟨i,t,rfl,e⟩
 | .inr x,v,h=>by
  obtain⟨t,e⟩:=Value.isStrOf_shape (x:=x) (v:=v) h;exact .inr ⟨x,t,rfl,e⟩
theorem ZeQ(i:Int)(t:Tok):U7 (.inl i) (.int i t)=true:=by simp [U7,Value.isInt]
theorem ZeR(x:Str)(t:Tok):U7 (.inr x) (.str x t)=true:=by simp [U7,Value.isStrOf]
theorem Zi7(a b:Int):decide ((Sum.inl a:Key)=Sum.inl b)=(a == b):=by
 by_cases e:a=b
 · subst e;simp
 · have h:¬(Sum.inl a:Key)=Sum.inl b:=λq=>e (Sum.inl.inj q)
   rw [decide_eq_false h];exact(beq_eq_false_iff_ne.mpr e).symm
theorem Zi8(a b:Str):decide ((Sum.inr a:Key)=Sum.inr b)=decide (a=b):=by
 by_cases e:a=b
 · subst e;simp
 · have h:¬(Sum.inr a:Key)=Sum.inr b:=λq=>e (Sum.inr.inj q)
   rw [decide_eq_false h,decide_eq_false e]
theorem Zi9(a:Int)(b:Str):decide ((Sum.inl a:Key)=Sum.inr b)=false:=decide_eq_false (λq=>nomatch q)
theorem Zja(a:Str)(b:Int):decide ((Sum.inr a:Key)=Sum.inl b)=false:=decide_eq_false (λq=>nomatch q)
def Xi(prog:Program)(w:World):PySem.KeyKind prog w Key where
 is:=U7
 hash:=Zmk w
 inj:=λv a b ha hb=>by
  rcases VQ ha with⟨i,t,rfl,rfl⟩|⟨x,t,rfl,rfl⟩
  · rcases VQ hb with⟨j,u,rfl,e⟩|⟨y,u,rfl,e⟩
    · injection e with e1 _;rw [e1]
    · exact nomatch e
  · rcases VQ hb with⟨j,u,rfl,e⟩|⟨y,u,rfl,e⟩
    · exact nomatch e
    · injection e with e1 _;rw [e1]
 byValue:=λk v h=>by
  rcases VQ h with⟨i,t,rfl,rfl⟩|⟨x,t,rfl,rfl⟩<;>rfl
 pyHash:=λhv h=>by
  rcases VQ hv with⟨i,t,rfl,rfl⟩|⟨x,t,rfl,rfl⟩
  · exact wpAny_pyHash_int h
  · exact wpAny_pyHash_str h
 eqBool:=λhu hv h=>by
  rcases VQ hu with⟨i,t,rfl,rfl⟩|⟨x,t,rfl,rfl⟩
  · rcases VQ hv with⟨j,u,rfl,rfl⟩|⟨y,u,rfl,rfl⟩
    · rw [Zi7]at h;exact wpAny_eqBool_int h
    · rw [Zi9]at h;exact SeqAt.EqAt.int_str i t y u _ _ _ _ h
  · rcases VQ hv with⟨j,u,rfl,rfl⟩|⟨y,u,rfl,rfl⟩
    · rw [Zja]at h;exact SeqAt.EqAt.str_int x t j u _ _ _ _ h
    · rw [Zi8]at h;exact wpAny_eqBool_str h
 «strs» := λk x t v h=>by
  rcases VQ h with⟨i,u,rfl,e⟩|⟨y,u,rfl,e⟩
  · exact nomatch e
  · injection e with e1 _
    subst e1;cases v<;>rfl
theorem Zcq(prog:Program)(w:World)(i:Int)(t:Tok):(Xi prog w).is (.inl i) (.int i t)=true:=ZeQ i t
theorem Zcr(prog:Program)(w:World)(x:Str)(t:Tok):(Xi prog w).is (.inr x) (.str x t)=true:=ZeR x t
end L2
namespace L2
open PySem PySem.Spec PyProof.Rows
inductive V where
 |non|bl (b:Bool)|int (i:Int)|str (x:Str)|byt (b:Array UInt8)|flt (b:UInt64)|ref (a:Addr)|ty (n:String)
 deriving DecidableEq
def RelV:V->Value->Prop
 | .non,u=>u=Value.none
 | .bl b,u=>u=Value.bool b
 | .int i,u=>∃t,u=Value.int i t
 | .str x,u=>∃t,u=Value.str x t
 | .byt b,u=>∃t,u=Value.bytes b t
 | .flt b,u=>∃t,u=Value.float b t
 | .ref a,u=>u=Value.ref a
 | .ty n,u=>u=Value.type n
abbrev Vals:List V->List Value->Prop:=Paired RelV
theorem Vals.length{xs:List V}{us:List Value}(r:Vals xs us):xs.length=us.length:=Paired.length r
theorem Vals.get:∀{xs:List V}{us:List Value}{i:Nat}{x:V},Vals xs us->xs[i]? = some x->∃u,us[i]? = some u/\RelV x u
 |_,_,_,_,.nil,e=>by simp at e
 |_,_,0,_,.cons r _,e=>by simp at e;subst e;exact⟨_,rfl,r⟩
 |_,_,i+1,x,.cons _ t,e=>by
  obtain⟨u,h1,h2⟩:=Vals.get (i:=i) (x:=x) t (by simpa using e);exact⟨u,by simpa using h1,h2⟩
theorem Vals.set{x:V}{u:Value}(r:RelV x u):∀{xs:List V}{us:List Value}(i:Nat),Vals xs us->Vals (xs.set i x) (us.set i u)
 |_,_,_,.nil => .nil
 |_,_,0,.cons _ t => .cons r t
 |_,_,i+1,.cons q t => .cons q (Vals.set r i t)
theorem Vals.append:∀{xs ys:List V}{us ws:List Value},Vals xs us->Vals ys ws->Vals (xs++ys) (us++ws)
 |_,_,_,_,.nil,s=>s
 |_,_,_,_,.cons r t,s => .cons r (Vals.append t s)
theorem Vals.take:∀{xs:List V}{us:List Value}(n:Nat),Vals xs us->Vals (xs.take n) (us.take n)
 |_,_,0,_ => .nil
 |_,_,_+1,.nil => .nil
 |_,_,n+1,.cons r t => .cons r (Vals.take n t)
theorem Vals.drop:∀{xs:List V}{us:List Value}(n:Nat),Vals xs us->Vals (xs.drop n) (us.drop n)
 |_,_,0,r=>r
 |_,_,_+1,.nil => .nil
 |_,_,n+1,.cons _ t=>Vals.drop n t
def RelO:Option V->Option Value->Prop
 |some v,some u=>RelV v u
 |none,none=>True
 |_,_=>False
def KV{κ:Type}:List (κ×V)->List (κ×Value)->Prop:=Paired λ(p:κ×V) (q:κ×Value)=>p.1=q.1/\RelV p.2 q.2
def kV:Key->V
 | .inl i => .int i
 | .inr x => .str x
inductive HO where
 |lst (xs:List V)
 |tup (xs:List V)
 |dK (kvs:List (Key×V))|dT (kvs:List (List Key×V))
 |set (S:Int->Bool) (n:Nat)
 |ins (C dx:Addr) (fs:List (Str×V))
 |own (x:Addr)
 |xd (fs:List (Str×V))
 |met (f x:Addr)
 |rng (lo hi:Int)
 |frz (o:Obj) (u:HO)
 |tbl (ps:Array Value)
 |ext (φ:Heap->Prop)
abbrev Hp:=Addr->Option HO
def upd(H:Hp)(a:Addr)(o:HO):Hp:=λb=>if b=a then some o else H b
theorem ZO{H:Hp}{a:Addr}{o:HO}:upd H a o a=some o:=by unfold upd;rw [if_pos rfl]
theorem Zz{H:Hp}{a b:Addr}{o:HO}(h:b≠a):upd H a o b=H b:=by unfold upd;rw [if_neg h]
theorem Jg{H:Hp}{a b:Addr}{o u:HO}(h:H a=some o)(h':H b=some u)(d:o≠u):a≠b:=by
 intro e;subst e;rw [h]at h';exact d (Option.some.inj h')
theorem Yr{H:Hp}{a b:Addr}{o:HO}(h:H a=some o)(h':H b=none):a≠b:=by
 intro e;subst e;rw [h]at h';cases h'
def TupN(h:Heap)(a:Addr)(its:Array Value):Prop:=∃o,h.get? a=some o/\o.cls = .type "tuple" /\ (∃n,o.data = .seq its n)/\o.dict=none
theorem TupN.tup{h:Heap}{a:Addr}{its:Array Value}(x:TupN h a its):IsTup h a its:=let⟨o,e,c,d,_⟩:=x;⟨o,e,c,d⟩
theorem TupN.new(h:Heap)(its:Array Value):TupN (h.push { cls := .type "tuple",data := .seq its }) h.objs.size its:=⟨_,Heap.get?_push_size _ rfl,rfl,⟨_,rfl⟩,rfl⟩
section
variable(P:Program)(w:World)
def ObjOk(H:Hp)(h:Heap)(a:Addr):HO->Prop
 | .lst xs=>xs.length<=sizeLine/\∃(its:List Value) (n:Nat),Vals xs its/\h.get? a=some { cls := .type "list",data := .seq its.toArray n }
 | .tup xs=>xs.length<=sizeLine/\∃its:List Value,Vals xs its/\TupN h a its.toArray
 | .dK kvs=>kvs.length<=sizeLine/\(a == sysModules)=false/\∃vs,KV kvs vs/\h.DictOf (Xi P w) a vs
 | .dT kvs=>kvs.length<=sizeLine/\(a == sysModules)=false/\∃xs:List (List Key×Addr×Value),
  Paired (λ(p:List Key×V) (q:List Key×Addr×Value)=>p.1=q.1/\H q.2.1=some (.tup (p.1.map kV))/\RelV p.2 q.2.2) kvs xs /\
  ∃o es ep,h.get? a=some o/\o.ExactDict/\o.data = .dict es ep/\es.toList=xs.map (entryOfKey (tupleKind (Xi P w)))/\(xs.map (·.1)).Nodup
 | .set S n=>h.SetOf (intKind P w) a S n
 | .ins C dx fs=>H dx=some (.own a)/\fs.length<=1000/\dx≠a/\h.get? a=some (instObj C dx) /\
  ∃mA,h.Ns1 dx mA/\(∀f,RelO (fs.lookup f) (mA f))/\PySem.Within mA (fs.map (·.1))
 | .own _=>∃o,h.get? a=some o
 | .xd fs=>∃mA,h.Ns1 a mA/\∀f,RelO (fs.lookup f) (mA f)
 | .rng lo hi=>∃t u v,h.get? a=some { cls := .type "range",data := .fields #[.int lo t,.int hi u,.int 1 v] }
 | .frz o u=>h.get? a=some o/\ObjOk H h a u
 | .tbl ps=>h.get? a=some { cls := .none,data := .fields ps }
 | .met f x=>h.get? a=some (PySem.W.methodObj (.ref f) (.ref x))
 | .ext φ=>φ h/\(∃o,h.get? a=some o)/\∀h1 h2:Heap,φ h1->(∀o,h1.get? a=some o->h2.get? a=some o)->φ h2
def HOk(H:Hp)(h:Heap):Prop:=∀a o,H a=some o->ObjOk P w H h a o
end
section
variable{P:Program}{w:World}{H H':Hp}{h h':Heap}{a:Addr}{o:HO}
theorem ObjOk.lt(x:ObjOk P w H h a o):a<h.objs.size:=by
 cases o with
 |lst xs=>obtain⟨_,_,_,_,e⟩:=x;exact Heap.lt_size e
 |tup xs=>obtain⟨_,_,_,p⟩:=x;exact p.tup.lt
 |dK kvs=>obtain⟨_,_,_,_,o,_,_,e,_⟩:=x;exact Heap.lt_size e
 |dT kvs=>obtain⟨_,_,_,_,o,_,_,e,_⟩:=x;exact Heap.lt_size e
 |set S n=>obtain⟨o,_,_,_,e,_⟩:=x;exact Heap.lt_size e
 |ins C dx fs=>obtain⟨_,_,_,e,_⟩:=x;exact Heap.lt_size e
 |own y=>obtain⟨_,e⟩:=x;exact Heap.lt_size e
 |xd fs=>obtain⟨_,⟨_,_,_,e,_⟩,_⟩:=x;exact Heap.lt_size e
 |rng lo hi=>obtain⟨_,_,_,e⟩:=x;exact Heap.lt_size e
 |frz ob u=>obtain⟨e,_⟩:=x;exact Heap.lt_size e
 |tbl ps=>exact Heap.lt_size (show h.get? a=some _ from x)
 |met f y=>exact Heap.lt_size (show h.get? a=some _ from x)
 |ext φ=>obtain⟨_,⟨_,e⟩,_⟩:=x;exact Heap.lt_size e
theorem Paired.mapP{α β:Type}{F G:α->β->Prop}:∀{l₁:List α}{l₂:List β},Paired F l₁ l₂->(∀a b,F a b->G a b)->Paired G l₁ l₂
 |_,_,.nil,_ => .nil
 |_,_,.cons r t,f => .cons (f _ _ r) (Paired.mapP t f)
theorem ObjOk.stay (x:ObjOk P w H h a o) (k:∀b u,(b=a\/H b=some (.own a))->h.get? b=some u->h'.get? b=some u)
 (ho:∀b,H b=some (.own a)->H' b=some (.own a)) (ht:∀b xs,H b=some (.tup xs)->H' b=some (.tup xs)):ObjOk P w H' h' a o:=by
 induction o with
 |lst xs=>obtain⟨z,its,n,r,e⟩:=x;exact⟨z,its,n,r,k _ _ (.inl rfl) e⟩
 |tup xs=>obtain⟨z,its,r,ob,e,c⟩:=x;exact⟨z,its,r,ob,k _ _ (.inl rfl) e,c⟩
 |dK kvs=>obtain⟨z,y,vs,r,ob,es,ep,e,c⟩:=x;exact⟨z,y,vs,r,ob,es,ep,k _ _ (.inl rfl) e,c⟩
 |dT kvs=>
  obtain⟨z,y,xs,r,ob,es,ep,e,c⟩:=x;exact⟨z,y,xs,Paired.mapP r λp q z=>⟨z.1,ht _ _ z.2.1,z.2.2⟩,ob,es,ep,k _ _ (.inl rfl) e,c⟩
 |set S n=>obtain⟨ob,es,ep,t,e,c⟩:=x;exact⟨ob,es,ep,t,k _ _ (.inl rfl) e,c⟩
 |ins C dx fs=>
  obtain⟨d,z,ne,e,mA,⟨od,es,ep,e2,c⟩,r⟩:=x;exact⟨ho _ d,z,ne,k _ _ (.inl rfl) e,mA,⟨od,es,ep,k _ _ (.inr d) e2,c⟩,r⟩
 |own y=>obtain⟨ob,e⟩:=x;exact⟨ob,k _ _ (.inl rfl) e⟩
 |xd fs=>obtain⟨mA,⟨od,es,ep,e,c⟩,r⟩:=x;exact⟨mA,⟨od,es,ep,k _ _ (.inl rfl) e,c⟩,r⟩
 |rng lo hi=>obtain⟨t,u,v,e⟩:=x;exact⟨t,u,v,k _ _ (.inl rfl) e⟩
 |frz ob u ih=>obtain⟨e,q⟩:=x;exact⟨k _ _ (.inl rfl) e,ih q⟩
 |tbl ps=>
  have e:h.get? a=some { cls := .none,data := .fields ps }:=x;show h'.get? a=some { cls := .none,data := .fields ps };exact k a _ (.inl rfl) e
 |met f y=>
  have e:h.get? a=some (PySem.W.methodObj (.ref f) (.ref y)):=x;show h'.get? a=some (PySem.W.methodObj (.ref f) (.ref y));exact k a _ (.inl rfl) e
 |ext φ=>obtain⟨p,⟨o,e⟩,st⟩:=x;exact⟨st _ _ p λo q=>k _ _ (.inl rfl) q,⟨o,k _ _ (.inl rfl) e⟩,st⟩
theorem HOk.lt(x:HOk P w H h)(e:H a=some o):a<h.objs.size:=(x a o e).lt
theorem HOk.fresh(x:HOk P w H h)(e:h.objs.size<=a):H a=none:=by
 cases q:H a with
 |none=>rfl
 |some u=>exact absurd (Nat.lt_of_lt_of_le (x.lt q) e) (Nat.lt_irrefl _)
theorem HOk.kept(x:HOk P w H h)(k:∀b u,h.get? b=some u->h'.get? b=some u):HOk P w H h':=λa o e=>
 (x a o e).stay (λb u _ q=>k b u q) (λ_ q=>q) λ_ _ q=>q
theorem HOk.laid(x:HOk P w H h)(k:∀b u,h.get? b=some u->h'.get? b=some u)(hp:h.objs.size<=a)(new:ObjOk P w (upd H a o) h' a o):HOk P w (upd H a o) h':=λb u e=>by
 have hn:=x.fresh hp
 by_cases hb:b=a
 · subst hb;rw [ZO]at e;cases e;exact new
 · rw [Zz hb]at e
   exact(x b u e).stay (λc v _ q=>k c v q) (λc q=>by rw [Zz (Yr q hn)];exact q) λc xs q=>by rw [Zz (Yr q hn)];exact q
end
def Rd(H:Hp)(a:Addr)(u:HO):Prop:=H a=some u\/∃o,H a=some (.frz o u)
theorem Rd.ok{P:Program}{w:World}{H:Hp}{h:Heap}{a:Addr}{u:HO}(r:Rd H a u)(x:HOk P w H h):ObjOk P w H h a u:=by
 rcases r with r|⟨o,r⟩
 · exact x a u r
 · obtain⟨_,q⟩:=x a _ r
   exact q
def Mut:Option HO->Prop
 |some (.lst _)=>True
 |some (.dK _)=>True
 |some (.dT _)=>True
 |some (.set _ _)=>True
 |some (.ins _ _ _)=>True
 |some (.ext _)=>True
 |_=>False
section
variable{P:Program}{w:World}{H:Hp}{h h':Heap}{x e:Addr}{o':HO}
theorem HOk.write (ok:HOk P w H h) (mu:Mut (H x)) (he:e=x\/H e=some (.own x)) (k:∀b u,b≠e->h.get? b=some u->h'.get? b=some u) (heo:∃u,h'.get? e=some u)
 (new:ObjOk P w (upd H x o') h' x o'):HOk P w (upd H x o') h':=λb u q=>by
 have nown:∀c y,H c=some (.own y)->c≠x:=λc y r z=>by subst z;rw [r]at mu;exact mu
 have ntup:∀c xs,H c=some (.tup xs)->c≠x:=λc xs r z=>by subst z;rw [r]at mu;exact mu
 by_cases hb:b=x
 · subst hb;rw [ZO]at q;cases q;exact new
 · rw [Zz hb]at q
   by_cases hbe:b=e
   · have q' : H b = some (.own x) := by
      rcases he with z|z
      · exact absurd (hbe.trans z) hb
      · rw [hbe];exact z
     rw [q]at q';cases q';obtain⟨v,hv⟩:=heo;exact⟨v,by rw [hbe];exact hv⟩
   · refine(ok b u q).stay (λc v hc r=>k c v ?_ r) (λc r=>by rw [Zz (nown c b r)];exact r) λc xs r=>by rw [Zz (ntup c xs r)];exact r
     rcases hc with rfl|hc
     · exact hbe
     · rintro rfl
       rcases he with z|z
       · exact nown c b hc z
       · rw [hc]at z;cases z;exact hb rfl
end
structure Un(fs ex:List Addr)(H H':Hp)(h h':Heap):Prop where
 keep:∀b o,h.get? b=some o->H b=none->b∉fs->b∉ex->h'.get? b=some o
 slot:∀b o,h.get? b=some o->H b=none->b∈fs->b∉ex->∃sl,h'.get? b=some { o with slots:=sl }
 free:∀b o,h.get? b=some o->H b=none->b∉ex->H' b=none
 there:∀b o,h.get? b=some o->b∉ex->∃o',h'.get? b=some o'
 tups:∀b xs,H b=some (.tup xs)->H' b=some (.tup xs)
 frzs:∀b o u,H b=some (.frz o u)->H' b=some (.frz o u)
 tbls:∀b ps,H b=some (.tbl ps)->∃more,H' b=some (.tbl (ps++more))
section
variable{fs fs' ex ex':List Addr}{H H1 H2:Hp}{h h1 h2 h':Heap}{a x e:Addr}{o:HO}
theorem Un.any(u:Un fs ex H H1 h h1){b:Addr}{ob:Obj}(q:h.get? b=some ob)(n:H b=none)(hx:b∉ex):∃sl,h1.get? b=some { ob with slots:=sl }:=by
 by_cases hb:b∈fs
 · exact u.slot b ob q n hb hx
 · exact⟨ob.slots,u.keep b ob q n hb hx⟩
theorem Un.trans(a:Un fs ex H H1 h h1)(b:Un fs ex H1 H2 h1 h2):Un fs ex H H2 h h2 where
 keep:=λc ob q n hc hx=>b.keep c ob (a.keep c ob q n hc hx) (a.free c ob q n hx) hc hx
 slot:=λc ob q n hc hx=>by
  obtain⟨sl,e1⟩:=a.slot c ob q n hc hx;obtain⟨sl',e2⟩:=b.slot c _ e1 (a.free c ob q n hx) hc hx;exact⟨sl',e2⟩
 free:=λc ob q n hx=>by
  obtain⟨o',e1⟩:=a.there c ob q hx;exact b.free c o' e1 (a.free c ob q n hx) hx
 there:=λc ob q hx=>by
  obtain⟨o',e1⟩:=a.there c ob q hx;exact b.there c o' e1 hx
 tups:=λc xs q=>b.tups c xs (a.tups c xs q)
 frzs:=λc ob xs q=>b.frzs c ob xs (a.frzs c ob xs q)
 tbls:=λc ps q=>by
  obtain⟨m1,e1⟩:=a.tbls c ps q;obtain⟨m2,e2⟩:=b.tbls c _ e1;exact⟨m1++m2,by rw [e2,Array.append_assoc]⟩
theorem Un.kept(k:∀b u,h.get? b=some u->h'.get? b=some u):Un fs ex H H h h':=
 ⟨λb ob q _ _ _=>k b ob q,λb ob q _ _ _=>⟨ob.slots,k b ob q⟩,λ_ _ _ n _=>n,λb ob q _=>⟨ob,k b ob q⟩,λ_ _ q=>q,λ_ _ _ q=>q,λ_ ps q=>⟨#[],by rw [q];simp⟩⟩
theorem Un.refl:Un fs ex H H h h:=Un.kept λ_ _ q=>q
theorem Un.laid(k:∀b u,h.get? b=some u->h'.get? b=some u)(hp:h.objs.size<=a)(hn:H a=none):Un fs ex H (upd H a o) h h' where
 keep:=λb u q _ _ _=>k b u q
 slot:=λb u q _ _ _=>⟨u.slots,k b u q⟩
 free:=λb u q n _=>by rw [Zz (Nat.ne_of_lt (Nat.lt_of_lt_of_le (Heap.lt_size q) hp))];exact n
 there:=λb u q _=>⟨u,k b u q⟩
 tups:=λb xs q=>by rw [Zz (Yr q hn)];exact q
 frzs:=λb u xs q=>by rw [Zz (Yr q hn)];exact q
 tbls:=λb ps q=>⟨#[],by rw [Zz (Yr q hn),q];simp⟩
theorem Un.write(mu:Mut (H x))(he:e=x\/H e=some (.own x))(k:∀b u,b≠e->h.get? b=some u->h'.get? b=some u)(heo:∃u,h'.get? e=some u):Un fs ex H (upd H x o) h h':=by
 have hx:∀b,H b=none->b≠x:=λb n z=>by subst z;rw [n]at mu;exact mu
 have hb:∀b,H b=none->b≠e:=λb n z=>by
  subst z;rcases he with r|r
  · exact hx b n r
  · rw [n]at r;cases r
 have hm:∀b u,H b=some u->¬Mut (some u)->b≠x:=λb u q nm z=>by subst z;rw [q]at mu;exact nm mu
 refine⟨λb u q n _ _=>k b u (hb b n) q,λb u q n _ _=>⟨u.slots,k b u (hb b n) q⟩,λb u q n _=>by rw [Zz (hx b n)];exact n,λb u q _ => ?_,
  λb xs q=>by rw [Zz (hm b _ q λz=>z)];exact q,λb u xs q=>by rw [Zz (hm b _ q λz=>z)];exact q,λb ps q=>⟨#[],by rw [Zz (hm b _ q λz=>z),q];simp⟩⟩
 by_cases hbe:b=e
 · subst hbe;exact heo
 · exact⟨u,k b u hbe q⟩
end
def trk(h:Heap)(H:Hp):List Addr:=(List.range h.objs.size).filter λa=>(H a).isSome
def VR(h:Heap)(H:Hp):Heap:=PySem.W.hideAll h (trk h H)
theorem ZeS(h:Heap)(H:Hp):(VR h H).objs.size=h.objs.size:=PySem.W.hideAll_size _ _
theorem ZfD{h:Heap}{H:Hp}{b:Addr}{o:Obj}(e:h.get? b=some o)(n:H b=none):(VR h H).get? b=some o:=
 PySem.W.hideAll_get _ e λhm=>by
  have q:(H b).isSome=true:=(List.mem_filter.mp hm).2;rw [n]at q;simp at q
theorem Zhi{h:Heap}{H:Hp}{b:Addr}{o:Obj}(e:(VR h H).get? b=some o):h.get? b=some o/\H b=none:=by
 have e':h.get? b=some o:=PySem.W.of_hideAll (trk h H) e;refine⟨e',?_⟩;cases q:H b with
 |none=>rfl
 |some x=>
  have hm:b∈trk h H:=List.mem_filter.mpr ⟨List.mem_range.mpr (Heap.lt_size e'),by simp [q]⟩;have z:(VR h H).get? b=none:=PySem.W.hideAll_none (trk h H) hm;rw [z]at e;cases e
end L2
namespace L2
open PySem PySem.Spec PyProof.Rows
structure Mod(K:PySem.W.Frag)(mg:Str->Option Value)(base:Heap):Prop where
 kin:K.In base
 glob:base.Ns mainGlobals mg
 blt:∃mb,base.Ns builtinsNs mb/\∀x:Str,x ≠ "__name__" -> mb x=bootBuiltins x
 nolimit:base.NoLimit
structure Cx where
 prog:Program
 w:World
 K:PySem.W.Frag
 mg:Str->Option Value
 base:Heap
 A:Around
 N:List Str
 s₀:Shared
 H₀:Hp
 env:Env
 outer:List Env
 stack:List Env
 ex:List Addr
 fn:Str->Bool
 calm:Bool
 pn:List (Addr×Obj)
 xe:Value->Shared->Prop
def frs(l:List Env):List Addr:=l.filterMap (·.frame)
abbrev Cx.fs(X:Cx):List Addr:=frs X.outer
def Vis(sc:Scope)(x:Str):Prop:=sc.names.lookup x=some .local\/sc.names.lookup x=some .cell\/sc.names.lookup x=some .free
def Loc(sc:Scope)(x:Str):Prop:=sc.names.lookup x=some .local\/sc.names.lookup x=some .cell
def ZlK(env:Env)(h:Heap)(m:Str->Option Value)(x:Str)(u:Value):Prop:=
 (env.kindOf x=some .local/\m x=some u)\/((env.kindOf x=some .cell\/env.kindOf x=some .free)/\∃c,env.cells.lookup x=some c/\h.IsCell c (some u))
structure Cx.Ok(X:Cx):Prop where
 mod:Mod X.K X.mg X.base
 kind:X.env.scope.kind = .function
 glob:X.env.globals=mainGlobals
 blt:X.env.builtins=builtinsNs
 above:X.s₀.heap.objs.size<=X.env.locals
 inj:∀x y c,X.env.cells.lookup x=some c->X.env.cells.lookup y=some c->x=y
 has:∀x,(X.env.kindOf x=some .cell\/X.env.kindOf x=some .free)->∃c,X.env.cells.lookup x=some c
 cab:∀x c,X.fn x=true->X.env.cells.lookup x=some c->X.s₀.heap.objs.size<=c
 hd:X.calm=true->X.A.handled=none
 frames:X.A.frames=some X.stack
 stk:X.stack=X.outer\/(X.stack=X.env::X.outer/\X.env.frame=some X.env.locals)
 exf:∀b∈X.ex,b≠X.env.locals/\∀x c,X.env.cells.lookup x=some c->c≠b
 bs:∀b o,X.base.get? b=some o->X.s₀.heap.get? b=some o/\X.H₀ b=none
 bsz:X.base.objs.size<=X.s₀.heap.objs.size
 noex:∀b o,X.base.get? b=some o->b∉X.ex
 exfs:∀b∈X.ex,b∉X.fs
 funs:X.s₀.heap.FunFrames X.base X.outer
 frf:∀b∈X.fs,X.H₀ b=none
structure Inv(X:Cx)(pins:List (Addr×Obj))(σ:List (Option V))(H:Hp)(s:Shared):Prop where
 ok:X.Ok
 os:s.os=X.s₀.os
 bare:AllBare s.gens
 base:Un X.fs X.ex X.H₀ H X.s₀.heap s.heap
 loc:∃m,s.heap.Ns X.env.locals m/\∀(i:Nat)(x:Str)(v:V),X.N[i]? = some x->σ[i]? = some (some v)->Vis X.env.scope x->∃u,RelV v u/\ZlK X.env s.heap m x u
 cell:∀x c,X.env.cells.lookup x=some c->∃v,s.heap.IsCell c v
 free:H X.env.locals=none
 freeC:∀x c,X.env.cells.lookup x=some c->H c=none
 pin:∀p∈X.pn++pins,s.heap.get? p.1=some p.2/\H p.1=none/\p.1≠X.env.locals/\p.1∉X.fs/\∀v,p.2.data ≠ .cell v
 hok:HOk X.prog X.w H s.heap
 len:σ.length=X.N.length
section
variable{X:Cx}{pins:List (Addr×Obj)}{σ:List (Option V)}{H H':Hp}{s:Shared}{h':Heap}
theorem Cx.Ok.nofr(ok:X.Ok){b:Addr}{o:Obj}(e:X.base.get? b=some o):b∉X.fs:=λhb=>by
 have:=(ok.funs.mem hb).1;rw [e]at this;cases this
theorem Inv.bs(I:Inv X pins σ H s):∀b o,X.base.get? b=some o->s.heap.get? b=some o/\H b=none:=λb o e=>
 ⟨I.base.keep b o (I.ok.bs b o e).1 (I.ok.bs b o e).2 (I.ok.nofr e) (I.ok.noex b o e),I.base.free b o (I.ok.bs b o e).1 (I.ok.bs b o e).2 (I.ok.noex b o e)⟩
theorem Inv.bk(I:Inv X pins σ H s):∀b o,X.base.get? b=some o->s.heap.get? b=some o:=λb o e=>(I.bs b o e).1
theorem Inv.mod(I:Inv X pins σ H s):Mod X.K X.mg X.base:=I.ok.mod
theorem Inv.kIn(I:Inv X pins σ H s):X.K.In s.heap:=I.ok.mod.kin.keeps I.bk
theorem Inv.nolimit(I:Inv X pins σ H s):s.heap.NoLimit:=I.ok.mod.nolimit.keeps I.bk
theorem Inv.fr(I:Inv X pins σ H s):∃m,Fr X.base X.env.locals s.heap m:=
 let⟨m,hn,_⟩:=I.loc
 ⟨m,hn,I.bk,Nat.le_trans I.ok.bsz I.ok.above⟩
theorem Inv.lt(I:Inv X pins σ H s):X.env.locals<s.heap.objs.size:=let⟨_,hn,_⟩:=I.loc;hn.lt
theorem Inv.sz(I:Inv X pins σ H s):X.s₀.heap.objs.size<=s.heap.objs.size:=Nat.le_trans I.ok.above (Nat.le_of_lt I.lt)
theorem Inv.nofs(I:Inv X pins σ H s){a:Addr}(h:s.heap.objs.size<=a):a∉X.fs:=λhb=>by
 obtain⟨_,o,ho,_⟩:=I.ok.funs.mem hb;exact absurd (Nat.lt_of_lt_of_le (Heap.lt_size ho) (Nat.le_trans I.sz h)) (Nat.lt_irrefl _)
theorem Inv.cne(I:Inv X pins σ H s):∀x c,X.env.cells.lookup x=some c->c≠X.env.locals:=λx c e z=>by
 obtain⟨v,o,ho,hd⟩:=I.cell x c e;obtain⟨m,⟨o',es,ep,ho',hd',_⟩,_⟩:=I.loc;rw [z,ho']at ho;cases ho;rw [hd']at hd;cases hd
theorem Inv.funs(I:Inv X pins σ H s):s.heap.FunFrames X.base X.outer:=by
 have all:∀(l:List Env),(∀b∈frs l,b∈X.fs)->X.s₀.heap.FunFrames X.base l->s.heap.FunFrames X.base l:=by
  intro l
  induction l with
  |nil=>intro _ _;trivial
  |cons env r ih=>
   intro hs hl;obtain⟨hk,⟨L,o,hf,hn,ho,hd⟩,hr⟩:=hl;have hL:L∈X.fs:=hs L (by unfold frs;rw [List.filterMap_cons,hf];exact List.mem_cons_self);obtain⟨sl,e⟩:=I.base.slot L o ho (I.ok.frf L hL) hL λz=>I.ok.exfs L z hL
   exact⟨hk,⟨L,_,hf,hn,e,hd⟩,ih (λb hb=>hs b (by unfold frs;rw [List.filterMap_cons,hf];exact List.mem_cons_of_mem _ hb)) hr⟩
 exact all X.outer (λ_ hb=>hb) I.ok.funs
theorem Inv.stack(I:Inv X pins σ H s):s.heap.FunFrames X.base X.stack:=by
 rcases I.ok.stk with e|⟨e,hf⟩
 · rw [e];exact I.funs
 · rw [e]
   obtain⟨m,hn,_⟩:=I.loc;refine .cons (by rw [I.ok.kind];decide) hf hn ?_ I.funs;exact Heap.get?_none_of_le (Nat.le_trans I.ok.bsz I.ok.above)
theorem Inv.stkSub(I:Inv X pins σ H s):∀b∈frs X.stack,b∈X.env.locals::X.fs:=λb hb=>by
 rcases I.ok.stk with e|⟨e,hf⟩
 · rw [e]at hb;exact List.mem_cons_of_mem _ hb
 · rw [e]at hb
   unfold frs at hb;rw [List.filterMap_cons,hf]at hb;exact hb
theorem Inv.stkFree(I:Inv X pins σ H s):∀b∈frs X.stack,H b=none:=λb hb=>by
 rcases List.mem_cons.mp (I.stkSub b hb)with e|hb
 · rw [e];exact I.free
 · obtain⟨_,o,ho,_⟩:=I.ok.funs.mem hb
   exact I.base.free b o ho (I.ok.frf b hb) λz=>I.ok.exfs b z hb
theorem Inv.step {g':Array GenState} {t':Nat} {d':Drawn} {ch:List Addr} (I:Inv X pins σ H s)
 (hch:∀b∈ch,(b∈X.ex\/X.s₀.heap.objs.size<=b)/\b≠X.env.locals/\(∀x c,X.env.cells.lookup x=some c->c≠b)/\∀p∈X.pn++pins,p.1≠b)
 (keep:∀b o,b≠X.env.locals->b∉X.fs->b∉ch->s.heap.get? b=some o->H b=none->h'.get? b=some o)
 (slot:∀b o,b≠X.env.locals->b∈X.fs->b∉ch->s.heap.get? b=some o->H b=none->∃sl,h'.get? b=some { o with slots:=sl }) (free:∀b o,b∉ch->s.heap.get? b=some o->H b=none->H' b=none)
 (there:∀b o,b∉ch->s.heap.get? b=some o->∃o',h'.get? b=some o')
 (tups:∀b xs,H b=some (.tup xs)->H' b=some (.tup xs)) (frzs:∀b o u,H b=some (.frz o u)->H' b=some (.frz o u)) (tbls:∀b ps,H b=some (.tbl ps)->∃more,H' b=some (.tbl (ps++more)))
 (ns:∀m,s.heap.Ns X.env.locals m->h'.Ns X.env.locals m) (hok:HOk X.prog X.w H' h') (hg:AllBare g') :
 Inv X pins σ H' { s with heap:=h',gens:=g',drawn:=d',toks:=t' }:=by
 have neL:∀b o,X.s₀.heap.get? b=some o->b≠X.env.locals:=λb o e=>Nat.ne_of_lt (Nat.lt_of_lt_of_le (Heap.lt_size e) I.ok.above)
 have neC:∀b o,X.s₀.heap.get? b=some o->b∉X.ex->b∉ch:=λb o e hx hb=>by
  rcases(hch b hb).1 with z|z
  · exact hx z
  · exact absurd (Nat.lt_of_lt_of_le (Heap.lt_size e) z) (Nat.lt_irrefl _)
 have cellK:∀x c,X.env.cells.lookup x=some c->∀v,s.heap.IsCell c v->h'.IsCell c v:=λx c e v ⟨o,ho,hd⟩=>by
  have nch:c∉ch:=λz=>(hch c z).2.2.1 x c e rfl
  by_cases hc:c∈X.fs
  · obtain⟨sl,q⟩:=slot c o (I.cne x c e) hc nch ho (I.freeC x c e)
    exact⟨_,q,hd⟩
  · exact⟨o,keep c o (I.cne x c e) hc nch ho (I.freeC x c e),hd⟩
 refine⟨I.ok,I.os,hg,⟨λb o e n hb hx => ?_,λb o e n hb hx => ?_,λb o e n hx => ?_,λb o e hx => ?_,λb xs e=>tups b xs (I.base.tups b xs e),λb o xs e=>frzs b o xs (I.base.frzs b o xs e),λb ps e => ?_⟩,?_,λx c e => ?_,?_,λx c e => ?_,λp hp => ?_,hok,I.len⟩
 · exact keep b o (neL b o e) hb (neC b o e hx) (I.base.keep b o e n hb hx) (I.base.free b o e n hx)
 · obtain⟨sl,e1⟩:=I.base.slot b o e n hb hx
   obtain⟨sl',e2⟩:=slot b _ (neL b o e) hb (neC b o e hx) e1 (I.base.free b o e n hx);exact⟨sl',e2⟩
 · obtain⟨o',e1⟩:=I.base.there b o e hx
   exact free b o' (neC b o e hx) e1 (I.base.free b o e n hx)
 · obtain⟨o',e1⟩:=I.base.there b o e hx
   exact there b o' (neC b o e hx) e1
 · obtain⟨m1,e1⟩:=I.base.tbls b ps e
   obtain⟨m2,e2⟩:=tbls b _ e1;exact⟨m1++m2,by rw [e2,Array.append_assoc]⟩
 · obtain⟨m,hn,hl⟩:=I.loc
   refine⟨m,ns m hn,λi x v e1 e2 e3 => ?_⟩;obtain⟨u,r,l⟩:=hl i x v e1 e2 e3;refine⟨u,r,?_⟩;rcases l with l|⟨k,c,e,z⟩
   · exact .inl l
   · exact .inr ⟨k,c,e,cellK x c e _ z⟩
 · obtain⟨v,z⟩:=I.cell x c e
   exact⟨v,cellK x c e v z⟩
 · obtain⟨m,⟨o,_,_,ho,_⟩,_⟩:=I.loc
   exact free _ o (λz=>(hch _ z).2.1 rfl) ho I.free
 · obtain⟨v,o,ho,hd⟩:=I.cell x c e
   exact free c o (λz=>(hch c z).2.2.1 x c e rfl) ho (I.freeC x c e)
 · obtain⟨e,n,ne,nf,d⟩:=I.pin p hp
   have nch:p.1∉ch:=λz=>(hch p.1 z).2.2.2 p hp rfl
   exact⟨keep p.1 p.2 ne nf nch e n,free p.1 p.2 nch e n,ne,nf,d⟩
theorem Inv.un{t':Nat}(I:Inv X pins σ H s)(u:Un X.fs [] H H' s.heap h')(hok:HOk X.prog X.w H' h'):Inv X pins σ H' { s with heap:=h',toks:=t' }:=by
 obtain⟨m,⟨o,es,ep,ho,r⟩,_⟩:=id I.loc;obtain⟨sl,hL⟩:=u.any ho I.free (by simp)
 exact I.step (g':=s.gens) (d':=s.drawn) (ch:=[]) (λ_ z=>nomatch z) (λb o _ hb _ e n=>u.keep b o e n hb (by simp)) (λb o _ hb _ e n=>u.slot b o e n hb (by simp)) (λb o _ e n=>u.free b o e n (by simp)) (λb o _ e=>u.there b o e (by simp)) u.tups u.frzs u.tbls (λm' hm=>by
  obtain⟨o',es',ep',ho',r'⟩:=hm;rw [ho]at ho';cases ho';exact⟨_,es',ep',hL,r'⟩) hok I.bare
theorem Inv.call {g':Array GenState} {t':Nat} {d':Drawn} {ch:List Addr} (I:Inv X pins σ H s) (u:Un (frs X.stack) ch H H' s.heap h') (hok:HOk X.prog X.w H' h') (hg:AllBare g')
 (hch:∀b∈ch,(b∈X.ex\/X.s₀.heap.objs.size<=b)/\b≠X.env.locals/\(∀x c,X.env.cells.lookup x=some c->c≠b)/\∀p∈X.pn++pins,p.1≠b) :
 Inv X pins σ H' { s with heap:=h',gens:=g',drawn:=d',toks:=t' }:=by
 obtain⟨m,⟨o,es,ep,ho,r⟩,_⟩:=id I.loc;obtain⟨sl,hL⟩:=u.any ho I.free λz=>(hch _ z).2.1 rfl
 exact I.step (ch:=ch) hch (λb o hL hb hc e n=>u.keep b o e n (λz=>(List.mem_cons.mp (I.stkSub b z)).elim hL hb) hc) (λb o _ _ hc e n=>u.any e n hc) (λb o hc e n=>u.free b o e n hc) (λb o hc e=>u.there b o e hc) u.tups u.frzs u.tbls (λm' hm=>by
  obtain⟨o',es',ep',ho',r'⟩:=hm;rw [ho]at ho';cases ho';exact⟨_,es',ep',hL,r'⟩) hok hg
theorem Inv.turned {t':Nat} {it:Addr} (I:Inv X pins σ H s) (k:∀b o,b≠it->s.heap.get? b=some o->h'.get? b=some o) (hn:H it=none) (hL:it≠X.env.locals)
 (h1:it∈X.ex\/X.s₀.heap.objs.size<=it) (h2:∀x c,X.env.cells.lookup x=some c->c≠it) (h3:∀p∈X.pn++pins,p.1≠it):Inv X pins σ H { s with heap:=h',toks:=t' }:=by
 have nit:∀b u,H b=some u->b≠it:=λb u e z=>by rw [z,hn]at e;cases e
 refine I.step (g':=s.gens) (d':=s.drawn) (ch:=[it]) (λb hb => ?_) (λb o _ _ hc e _=>k b o (λz=>hc (by simp [z])) e) (λb o _ _ hc e _=>⟨o.slots,k b o (λz=>hc (by simp [z])) e⟩) (λ_ _ _ _ n=>n)
  (λb o hc e=>⟨o,k b o (λz=>hc (by simp [z])) e⟩) (λ_ _ e=>e) (λ_ _ _ e=>e) (λb ps e=>⟨#[],by rw [e];simp⟩) (λm hm => ?_) (λb u e => ?_) I.bare
 · have e:b=it:=by simpa using hb
   subst e;exact⟨h1,hL,h2,h3⟩
 · obtain⟨o,es,ep,ho,r⟩:=hm
   exact⟨o,es,ep,k _ o (Ne.symm hL) ho,r⟩
 · refine(I.hok b u e).stay (λc v hc q=>k c v ?_ q) (λ_ q=>q) λ_ _ q=>q
   rcases hc with z|z
   · rw [z];exact nit b u e
   · exact nit c _ z
theorem Inv.tok(I:Inv X pins σ H s)(t:Nat):Inv X pins σ H { s with toks:=t }:=I.un (h':=s.heap) (t':=t) Un.refl I.hok
theorem Inv.kept{t':Nat}(I:Inv X pins σ H s)(k:∀b u,s.heap.get? b=some u->h'.get? b=some u):Inv X pins σ H { s with heap:=h',toks:=t' }:=I.un (Un.kept k) (I.hok.kept k)
theorem Inv.laid{a:Addr}{o:HO}{t':Nat}(I:Inv X pins σ H s)(k:∀b u,s.heap.get? b=some u->h'.get? b=some u)(hp:s.heap.objs.size<=a)(new:ObjOk X.prog X.w (upd H a o) h' a o) :
 Inv X pins σ (upd H a o) { s with heap:=h',toks:=t' }:=I.un (Un.laid k hp (I.hok.fresh hp)) (I.hok.laid k hp new)
theorem Inv.write {x e:Addr} {o:HO} {t':Nat} (I:Inv X pins σ H s) (mu:Mut (H x)) (he:e=x\/H e=some (.own x)) (k:∀b u,b≠e->s.heap.get? b=some u->h'.get? b=some u) (heo:∃u,h'.get? e=some u)
 (new:ObjOk X.prog X.w (upd H x o) h' x o):Inv X pins σ (upd H x o) { s with heap:=h',toks:=t' }:=I.un (Un.write mu he k heo) (I.hok.write mu he k heo new)
theorem Inv.pins_of{pins':List (Addr×Obj)}(I:Inv X pins σ H s)(h:∀p∈pins',s.heap.get? p.1=some p.2/\H p.1=none/\p.1≠X.env.locals/\p.1∉X.fs/\∀v,p.2.data ≠ .cell v):Inv X pins' σ H s:=
 ⟨I.ok,I.os,I.bare,I.base,I.loc,I.cell,I.free,I.freeC,λp hp=>(List.mem_append.mp hp).elim (λz=>I.pin p (List.mem_append_left _ z)) (h p),I.hok,I.len⟩
theorem ZcJ{N:List Str}(hN:N.Nodup){i j:Nat}{x:Str}(a:N[i]? = some x)(b:N[j]? = some x):i=j:=by
 obtain⟨h1,e1⟩:=List.getElem?_eq_some_iff.mp a;obtain⟨h2,e2⟩:=List.getElem?_eq_some_iff.mp b;exact(List.getElem_inj hN).mp (e1.trans e2.symm)
theorem Zbr {M:Model} {A:Around} {E:Value->Shared->Prop} {i:Nat} {x:Str} {v:V} {u:Value} {Q:Unit->Shared->Prop} (I:Inv X pins σ H s) (hN:X.N.Nodup) (hi:X.N[i]? = some x) (hx:Loc X.env.scope x) (r:RelV v u)
 (h:∀s',Inv X pins (σ.set i (some v)) H s'->(∃a,Heap.SameBut a s.heap s'.heap/\(a=X.env.locals\/X.env.cells.lookup x=some a))->Q () s') (hf:X.fn x=true\/X.env.scope.names.lookup x=some .local:=by first|exact .inl rfl|exact .inr rfl|assumption):wpAny M A (storeName X.env x u) Q E s:=by
 obtain⟨m,hn,hl⟩:=id I.loc;have hcls:(X.env.scope.kind == .class||(X.env.scope.kind == .module&&X.env.locals != X.env.globals))=false:=by rw [I.ok.kind];rfl
 have hiσ:i<σ.length:=by rw [I.len];exact(List.getElem?_eq_some_iff.mp hi).1
 have cne:=I.cne
 have tracked:∀{a:Addr}{h':Heap},(∃o,s.heap.get? a=some o/\H a=none)->Heap.SameBut a s.heap h'->HOk X.prog X.w H h':=λ{a h'} ha hs b ob e=>by
  obtain⟨_,_,hfree⟩:=ha;refine(I.hok b ob e).stay (λc w' hc q=>(hs.2 c ?_).trans q) (λ_ q=>q) λ_ _ q=>q
  rintro rfl
  rcases hc with rfl|hc
  · rw [hfree]at e;cases e
  · rw [hfree]at hc;cases hc
 rcases hx with hk|hk
 · refine wpAny_storeName_local hk hn (λh' hn' hs => ?_) hcls
   obtain⟨oL,_,_,hoL,_⟩:=id hn;refine h _ ⟨I.ok,I.os,I.bare,⟨λb o e n hb hx => ?_,λb o e n hb hx => ?_,I.base.free,λb o e hx => ?_,I.base.tups,I.base.frzs,I.base.tbls⟩,⟨_,hn',λj y v' e1 e2 e3 => ?_⟩,λy c e => ?_,I.free,I.freeC,λp hp => ?_,tracked ⟨oL,hoL,I.free⟩ hs,by simpa using I.len⟩ ⟨_,hs,.inl rfl⟩
   · exact(hs.2 b (Nat.ne_of_lt (Nat.lt_of_lt_of_le (Heap.lt_size e) I.ok.above))).trans (I.base.keep b o e n hb hx)
   · obtain⟨sl,e1⟩:=I.base.slot b o e n hb hx
     exact⟨sl,(hs.2 b (Nat.ne_of_lt (Nat.lt_of_lt_of_le (Heap.lt_size e) I.ok.above))).trans e1⟩
   · obtain⟨o',e1⟩:=I.base.there b o e hx
     exact⟨o',(hs.2 b (Nat.ne_of_lt (Nat.lt_of_lt_of_le (Heap.lt_size e) I.ok.above))).trans e1⟩
   · by_cases hj:j=i
     · subst hj
       rw [hi]at e1;cases e1;rw [List.getElem?_set_self hiσ]at e2;cases e2;exact⟨u,r,.inl ⟨hk,by simp⟩⟩
     · rw [List.getElem?_set_ne (Ne.symm hj)]at e2
       obtain⟨u',r',q⟩:=hl j y v' e1 e2 e3;refine⟨u',r',?_⟩;rcases q with⟨k,e⟩|⟨k,c,e,z⟩
       · refine .inl ⟨k,?_⟩
         have:y≠x:=λe=>hj (ZcJ hN e1 (e▸hi))
         simp [this,e]
       · exact .inr ⟨k,c,e,z.sameBut hs (cne y c e)⟩
   · obtain⟨w',z⟩:=I.cell y c e
     exact⟨w',z.sameBut hs (cne y c e)⟩
   · obtain⟨e,n,ne,nf,d⟩:=I.pin p hp
     exact⟨(hs.2 p.1 ne).trans e,n,ne,nf,d⟩
 · have hfn : X.fn x = true := by
    rcases hf with z|z
    · exact z
    · rw [z]at hk;cases hk
   obtain⟨c,hc⟩:=I.ok.has x (.inl hk);obtain⟨w',z⟩:=I.cell x c hc;refine wpAny_storeName_cell I.ok.kind hk hc z (λh' hc' hs => ?_);obtain⟨oc,hoc,hocd⟩:=id z;refine h { s with heap:=h' } ⟨I.ok,I.os,I.bare,⟨λb o e n hb hx => ?_,λb o e n hb hx => ?_,I.base.free,λb o e hx => ?_,I.base.tups,I.base.frzs,I.base.tbls⟩,⟨m,hn.sameBut hs (Ne.symm (cne x c hc)),λj y v' e1 e2 e3 => ?_⟩,λy c' e => ?_,I.free,I.freeC,λp hp => ?_,tracked ⟨oc,hoc,I.freeC x c hc⟩ hs,by simpa using I.len⟩ ⟨c,hs,.inr hc⟩
   · exact(hs.2 b (Nat.ne_of_lt (Nat.lt_of_lt_of_le (Heap.lt_size e) (I.ok.cab x c hfn hc)))).trans (I.base.keep b o e n hb hx)
   · obtain⟨sl,e1⟩:=I.base.slot b o e n hb hx
     exact⟨sl,(hs.2 b (Nat.ne_of_lt (Nat.lt_of_lt_of_le (Heap.lt_size e) (I.ok.cab x c hfn hc)))).trans e1⟩
   · obtain⟨o',e1⟩:=I.base.there b o e hx
     exact⟨o',(hs.2 b (Nat.ne_of_lt (Nat.lt_of_lt_of_le (Heap.lt_size e) (I.ok.cab x c hfn hc)))).trans e1⟩
   · by_cases hj:j=i
     · subst hj
       rw [hi]at e1;cases e1;rw [List.getElem?_set_self hiσ]at e2;cases e2;exact⟨u,r,.inr ⟨.inl hk,c,hc,hc'⟩⟩
     · rw [List.getElem?_set_ne (Ne.symm hj)]at e2
       obtain⟨u',r',q⟩:=hl j y v' e1 e2 e3;refine⟨u',r',?_⟩;rcases q with q|⟨k,c',e,z'⟩
       · exact .inl q
       · refine .inr ⟨k,c',e,z'.sameBut hs ?_⟩
         rintro rfl
         exact hj (ZcJ hN e1 (I.ok.inj _ _ _ e hc▸hi))
   · by_cases hcc:c'=c
     · subst hcc;exact⟨_,hc'⟩
     · obtain⟨w2,z2⟩:=I.cell y c' e
       exact⟨w2,z2.sameBut hs hcc⟩
   · obtain⟨e,n,ne,nf,d⟩:=I.pin p hp
     refine⟨(hs.2 p.1 ?_).trans e,n,ne,nf,d⟩;intro q;rw [q,hoc]at e;have q':oc=p.2:=Option.some.inj e;exact d w' (by rw [<-q'];exact hocd)
theorem ZcK {M:Model} {A:Around} {E:Value->Shared->Prop} {i:Nat} {x:Str} {v:V} {u:Value} {Q:Unit->Shared->Prop} (I:Inv X pins σ H s) (hN:X.N.Nodup) (hi:X.N[i]? = some x) (hx:Loc X.env.scope x) (r:RelV v u)
 (h:∀s',Inv X pins (σ.set i (some v)) H s'->Q () s') (hf:X.fn x=true\/X.env.scope.names.lookup x=some .local:=by first|exact .inl rfl|exact .inr rfl|assumption):wpAny M A (storeName X.env x u) Q E s:=
 Zbr I hN hi hx r (λs' I' _=>h s' I') hf
theorem Inv.call' {s':Shared} {ch:List Addr} (I:Inv X pins σ H s) (ho:s'.os=s.os) (u:Un (frs X.stack) ch H H' s.heap s'.heap) (hok:HOk X.prog X.w H' s'.heap) (hg:AllBare s'.gens)
 (hch:∀b∈ch,(b∈X.ex\/X.s₀.heap.objs.size<=b)/\b≠X.env.locals/\(∀x c,X.env.cells.lookup x=some c->c≠b)/\∀p∈X.pn++pins,p.1≠b):Inv X pins σ H' s':=by
 obtain⟨h',g',d',t',o'⟩:=s';have e:o'=s.os:=ho;subst e;exact I.call (g':=g') (t':=t') (d':=d') u hok hg hch
end
abbrev XK:=Value->Option Addr->Hp->Prop
abbrev St:=List (Option V)
abbrev VK:=V->Hp->Prop
abbrev TE:=St->Hp->VK->Prop
abbrev TT:=St->Hp->(Bool->Hp->Prop)->Prop
abbrev TA:=St->Hp->(List V->Hp->Prop)->Prop
structure Ends where
 nx:St->Hp->Prop
 rt:VK
 bk:St->Hp->Prop:=λ_ _=>False
 ct:St->Hp->Prop:=λ_ _=>False
abbrev TS:=Ends->St->Hp->Prop
def EP(X:Cx)(pins:List (Addr×Obj))(σ:St)(Q:VK)(u:Value)(s':Shared):Prop:=∃v H',Inv X pins σ H' s'/\RelV v u/\Q v H'
def TP(X:Cx)(pins:List (Addr×Obj))(σ:St)(Q:Bool->Hp->Prop)(b:Bool)(s':Shared):Prop:=∃H',Inv X pins σ H' s'/\Q b H'
def AP(X:Cx)(pins:List (Addr×Obj))(σ:St)(Q:List V->Hp->Prop)(us:List Value)(s':Shared):Prop:=∃vs H',Inv X pins σ H' s'/\Vals vs us/\Q vs H'
def SP(X:Cx)(pins:List (Addr×Obj))(D:Ends)(f:Flow)(s':Shared):Prop:=
 match f with
 | .next=>∃σ' H',Inv X pins σ' H' s'/\D.nx σ' H'
 | .brk=>∃σ' H',Inv X pins σ' H' s'/\D.bk σ' H'
 | .cont=>∃σ' H',Inv X pins σ' H' s'/\D.ct σ' H'
 | .ret u=>∃v σ' H',Inv X pins σ' H' s'/\RelV v u/\D.rt v H'
def PE(X:Cx)(e:Expr)(t:TE):Prop:=
 ∀(pins:List (Addr×Obj))(s:Shared)(σ:St)(H:Hp)(Q:VK),Inv X pins σ H s->t σ H Q->wpAny (model X.prog X.w) X.A (eval e X.env) (EP X pins σ Q) X.xe s
def PT(X:Cx)(e:Expr)(t:TT):Prop:=
 ∀(pins:List (Addr×Obj))(s:Shared)(σ:St)(H:Hp)(Q:Bool->Hp->Prop),Inv X pins σ H s->t σ H Q->wpAny (model X.prog X.w) X.A (isTrue e X.env (eval e X.env)) (TP X pins σ Q) X.xe s
def PW(X:Cx)(e:Expr)(t:TT):Prop:=
 ∀(whole:Sem Value)(pins:List (Addr×Obj))(s:Shared)(σ:St)(H:Hp)(Q:Bool->Hp->Prop),Inv X pins σ H s->t σ H Q->wpAny (model X.prog X.w) X.A (isTrue e X.env whole) (TP X pins σ Q) X.xe s
theorem PW.pt{X:Cx}{e:Expr}{t:TT}(h:PW X e t):PT X e t:=h _
def PA(X:Cx)(es:List Expr)(t:TA):Prop:=
 ∀(pos:Pos)(pins:List (Addr×Obj))(s:Shared)(σ:St)(H:Hp)(Q:List V->Hp->Prop),Inv X pins σ H s->t σ H Q->wpAny (model X.prog X.w) X.A (spliced (backTo pos (starEach es X.env))) (AP X pins σ Q) X.xe s
def PS(X:Cx)(st:Stmt)(t:TS):Prop:=
 ∀(pins:List (Addr×Obj))(s:Shared)(σ:St)(H:Hp)(D:Ends),Inv X pins σ H s->t D σ H->wpAny (model X.prog X.w) X.A (exec st X.env) (SP X pins D) X.xe s
def PSs(X:Cx)(st:List Stmt)(t:TS):Prop:=
 ∀(pins:List (Addr×Obj))(s:Shared)(σ:St)(H:Hp)(D:Ends),Inv X pins σ H s->t D σ H->wpAny (model X.prog X.w) X.A (execs st X.env) (SP X pins D) X.xe s
theorem thn{α:Type}{t:Sem α}{Q Q':α->Shared->Prop}{M:Model}{A:Around}{E:Value->Shared->Prop}{s:Shared}(h:wpAny M A t Q E s)(hQ:∀a s,Q a s->Q' a s):wpAny M A t Q' E s:=wpAny_mono h hQ λ_ _ x=>x
end L2
namespace L2
open PySem PySem.Spec PyProof.Rows
section
variable{X:Cx}
def YR(i:Nat):TE:=λσ H Q=>∃v,σ[i]? = some (some v)/\Q v H
def tC(v:V):TE:=λ_ H Q=>Q v H
theorem Zjb {i:Nat} {x:Str} {pos:Pos} (hN:X.N[i]? = some x) (hv:Vis X.env.scope x) (hd:(x == ("__debug__" : Str))=false:=by decide) (hcd:(x == ("__classdict__" : Str))=false:=by decide):PE X (.Name x pos) (YR i):=by
 intro pins s σ H Q I h;obtain⟨v,e,h⟩:=h;obtain⟨m,hn,hl⟩:=I.loc;obtain⟨u,r,l⟩:=hl i x v hN e hv;have fin:EP X pins σ Q u s:=⟨v,H,I,r,h⟩
 rcases l with⟨hk,hm⟩|⟨hk,c,hc,hcell⟩
 · exact wpAny_Name (wpAny_loadName_local I.ok.kind hk hn hm fin) hd
 · rcases hk with hk|hk
   · exact wpAny_Name (wpAny_loadName_cell I.ok.kind hk hc hcell fin) hd
   · exact wpAny_Name (wpAny_loadName_free I.ok.kind hk hc hcell fin hcd) hd
theorem Zl{i j pos}:PE X (.Constant (.int i) j pos) (tC (.int i)):=λ_ _ _ H _ I h=>wpAny_Constant_int ⟨.int i,H,I.tok _,⟨_,rfl⟩,h⟩
theorem Xb{b j pos}:PE X (.Constant (.bool b) j pos) (tC (.bl b)):=λ_ _ _ H _ I h=>Constant_bool ⟨.bl b,H,I,rfl,h⟩
theorem Zgq{j pos}:PE X (.Constant .none j pos) (tC .non):=λ_ _ _ H _ I h=>Constant_none ⟨.non,H,I,rfl,h⟩
theorem Zjc{x j pos}:PE X (.Constant (.str x) j pos) (tC (.str x)):=λ_ _ _ H _ I h=>Calls.Constant_str ⟨.str x,H,I.tok _,⟨_,rfl⟩,h⟩
def Gl(X:Cx)(x:Str):Prop:=X.env.kindOf x=some .globalImplicit
theorem Zec {E:Value->Shared->Prop} {pins:List (Addr×Obj)} {s:Shared} {σ:St} {H:Hp} {x:Str} {u:Value} {pos:Pos} {Q:Value->Shared->Prop} (I:Inv X pins σ H s) (hg:Gl X x) (hm:X.mg x=some u) (h:Q u s)
 (hd:(x == ("__debug__" : Str))=false:=by decide):wpAny (model X.prog X.w) X.A (eval (.Name x pos) X.env) Q E s:=
 Calls.Name_function_global I.ok.kind hg (Calls.loadGlobal_global (by rw [I.ok.glob];exact I.mod.glob.keeps I.bk) hm h) hd
theorem UR {E:Value->Shared->Prop} {pins:List (Addr×Obj)} {s:Shared} {σ:St} {H:Hp} {x:Str} {u:Value} {pos:Pos} {Q:Value->Shared->Prop} (I:Inv X pins σ H s) (hg:Gl X x) (hm:X.mg x=none) (hv:bootBuiltins x=some u) (h:Q u s)
 (hn:x ≠ "__name__" := by decide) (hd:(x == ("__debug__" : Str))=false:=by decide):wpAny (model X.prog X.w) X.A (eval (.Name x pos) X.env) Q E s:=by
 obtain⟨mb,h1,h2⟩:=I.mod.blt;exact Calls.Name_function_global I.ok.kind hg (Calls.loadGlobal_builtin (by rw [I.ok.glob];exact I.mod.glob.keeps I.bk) hm (by rw [I.ok.blt];exact h1.keeps I.bk) ((h2 x hn).trans hv) h) hd
theorem Zb2 {x:Str} {v:V} {u:Value} {pos:Pos} (hg:Gl X x) (hm:X.mg x=none) (hv:bootBuiltins x=some u) (r:RelV v u) (hn:x ≠ "__name__" := by decide) (hd:(x == ("__debug__" : Str))=false:=by decide):PE X (.Name x pos) (tC v):=
 λ_ _ _ H _ I h=>UR I hg hm hv ⟨v,H,I,r,h⟩ hn hd
variable{a b:Expr}{ta tb:TE}{pos:Pos}
def PC(X:Cx)(op:CmpOp)(a b:Expr)(t:TE):Prop:=
 ∀(pins:List (Addr×Obj))(s:Shared)(σ:St)(H:Hp)(Q:VK),Inv X pins σ H s->t σ H Q ->
  wpAny (model X.prog X.w) X.A (eval a X.env) (λv s₁=>wpAny (model X.prog X.w) X.A (eval b X.env) (λu s₂=>wpAny (model X.prog X.w) X.A (compareOp op v u) (EP X pins σ Q) X.xe s₂) X.xe s₁) X.xe s
theorem ZfE(b:Expr){op:CmpOp}(h:op ≠ .In)(h2:op ≠ .NotIn):behindInMarks op b=false:=by
 have e1:(op == CmpOp.In)=false:=by cases op<;>first|rfl|exact absurd rfl h
 have e2:(op == CmpOp.NotIn)=false:=by cases op<;>first|rfl|exact absurd rfl h2
 cases b<;>simp [behindInMarks,e1,e2]
def Zip(ta:TE):TE:=λσ H Q=>ta σ H λx H1=>Q (.bl (!decide (x = .non))) H1
theorem RelV.none_iff{x:V}{v:Value}(r:RelV x v):(v == Value.none)=decide (x = .non):=by
 cases x with
 |non=>cases r;rfl
 |bl _=>cases r;rfl
 |int _=>obtain⟨t,rfl⟩:=r;rfl
 |str _=>obtain⟨t,rfl⟩:=r;rfl
 |byt _=>obtain⟨t,rfl⟩:=r;rfl
 |flt _=>obtain⟨t,rfl⟩:=r;rfl
 |ref _=>cases r;rfl
 |ty _=>cases r;rfl
theorem Zed{j pos'}(ha:PE X a ta):PC X .IsNot a (.Constant .none j pos') (Zip ta):=by
 intro pins s σ H Q I h;refine thn (ha pins s σ H _ I h) λv s1 ⟨x,H1,I1,r1,q1⟩ => ?_
 exact Constant_none (isnot_none_gen ⟨.bl _,H1,I1,by rw [r1.none_iff];rfl,q1⟩)
def tB(t:TE):TT:=λσ H Q=>t σ H λx H1=>∃c,x = .bl c/\Q c H1
theorem Jh{op:CmpOp}{t:TE}(h:PC X op a b t)(h1:behindInMarks op b=false:=by first|exact ZfE _ (by decide) (by decide)|rfl):PT X (.Compare a [op] [b] pos) (tB t):=by
 intro pins s σ H Q I hw;refine wpAny_isTrue_Compare1 (thn (h pins s σ H _ I hw) λv s1 h1=>thn h1 λu s2 h2=>thn h2 λc s3 ⟨x,H1,I1,r1,q1⟩ => ?_) h1;obtain⟨d,rfl,q⟩:=q1;cases r1;exact wpAny_truthy_bool ⟨H1,I1,q⟩
theorem Ut{e:Expr}{t:TE}(h:PE X e t)(he:∀whole,isTrue e X.env whole=(do let v <-whole;standAt e.pos;holding [v] (truthy v)):=by intro _;rfl):PT X e (tB t):=by
 intro pins s σ H Q I hw;refine isTrue_plain (thn (h pins s σ H _ I hw) λv s1 ⟨x,H1,I1,r1,q1⟩ => ?_) (he _);obtain⟨d,rfl,q⟩:=q1;cases r1;exact wpAny_truthy_bool ⟨H1,I1,q⟩
variable{tA tB':TT}{rest:List Expr}
def ZlL(t u:TT):TT:=λσ H Q=>t σ H λc H1=>if c=true then u σ H1 Q else Q false H1
def tOr(t u:TT):TT:=λσ H Q=>t σ H λc H1=>if c=true then Q true H1 else u σ H1 Q
def ZlM(t:TT):TT:=λσ H Q=>t σ H λc H1=>Q (!c) H1
theorem Zb3(ha:PT X a tA):PW X (.BoolOp .And [a] pos) tA:=by
 intro wh pins s σ H Q I h;refine isTrue_and (thn (ha pins s σ H Q I h) λc s1 e => ?_);cases c with
 |true=>exact isTrue_and_nil e
 |false=>exact e
theorem U8(ha:PT X a tA):PW X (.BoolOp .Or [a] pos) tA:=by
 intro wh pins s σ H Q I h;refine isTrue_or (thn (ha pins s σ H Q I h) λc s1 e => ?_);cases c with
 |false=>exact isTrue_or_nil e
 |true=>exact e
theorem Ji(ha:PT X a tA)(hb:PW X (.BoolOp .And (b::rest) pos) tB'):PW X (.BoolOp .And (a::b::rest) pos) (ZlL tA tB'):=by
 intro wh pins s σ H Q I h;refine isTrue_and (thn (ha pins s σ H _ I h) λc s1 ⟨H1,I1,q1⟩ => ?_);cases c with
 |true=>exact hb wh pins s1 σ H1 Q I1 q1
 |false=>exact⟨H1,I1,q1⟩
theorem VU(ha:PT X a tA)(hb:PW X (.BoolOp .Or (b::rest) pos) tB'):PW X (.BoolOp .Or (a::b::rest) pos) (tOr tA tB'):=by
 intro wh pins s σ H Q I h;refine isTrue_or (thn (ha pins s σ H _ I h) λc s1 ⟨H1,I1,q1⟩ => ?_);cases c with
 |true=>exact⟨H1,I1,q1⟩
 |false=>exact hb wh pins s1 σ H1 Q I1 q1
theorem QH(ha:PT X a tA):PT X (.UnaryOp .Not a pos) (ZlM tA):=by
 intro pins s σ H Q I h;exact isTrue_not (ha pins s σ H (λc H1=>Q (!c) H1) I h)
def Ziq(ta tb:TE):TE:=λσ H Q=>ta σ H λx H1=>∃c,x = .bl c/\if c=true then tb σ H1 Q else Q (.bl false) H1
theorem Zjd{op}{t:TE}(h:PE X a t):PE X (.BoolOp op [a] pos) t:=λpins s σ H Q I hw=>BoolOp_one (h pins s σ H Q I hw)
theorem Zgr(ha:PE X a ta)(hb:PE X (.BoolOp .And (b::rest) pos) tb):PE X (.BoolOp .And (a::b::rest) pos) (Ziq ta tb):=by
 intro pins s σ H Q I h;refine BoolOp_and (thn (ha pins s σ H _ I h) λv s1 ⟨x,H1,I1,r1,q1⟩ => ?_);obtain⟨c,rfl,q1⟩:=q1;cases r1;refine wpAny_truthy_bool ?_;cases c with
 |true=>exact hb pins s1 σ H1 Q I1 q1
 |false=>exact⟨.bl false,H1,I1,rfl,q1⟩
end
end L2
namespace L2
open PySem PySem.Spec PyProof.Rows
def SqL(K:PySem.W.Frag)(H:Hp)(a:Addr)(xs:List V):Prop:=
 Rd H a (.lst xs) \/
  ∃(o:Obj) (its:Array Value) (n:Nat),K.lookup a=some o/\o.cls = .type "list" /\ o.dict=none/\o.data = .seq its n/\its.size<=sizeLine/\Vals xs its.toList
def SqT(K:PySem.W.Frag)(H:Hp)(a:Addr)(xs:List V):Prop:=
 Rd H a (.tup xs) \/
  ∃(o:Obj) (its:Array Value) (n:Nat),K.lookup a=some o/\o.cls = .type "tuple" /\ o.data = .seq its n/\its.size<=sizeLine/\Vals xs its.toList
def Zml:Value->Option V
 | .none=>some .non
 | .bool b=>some (.bl b)
 | .int i _=>some (.int i)
 | .str x _=>some (.str x)
 | .bytes b _=>some (.byt b)
 | .float b _=>some (.flt b)
 | .ref a=>some (.ref a)
 | .type n=>some (.ty n)
 |_=>none
theorem RelV.abs{x:V}{u:Value}(r:RelV x u):Zml u=some x:=by
 cases x with
 |non=>cases r;rfl
 |bl _=>cases r;rfl
 |int _=>obtain⟨t,rfl⟩:=r;rfl
 |str _=>obtain⟨t,rfl⟩:=r;rfl
 |byt _=>obtain⟨t,rfl⟩:=r;rfl
 |flt _=>obtain⟨t,rfl⟩:=r;rfl
 |ref _=>cases r;rfl
 |ty _=>cases r;rfl
theorem RelV.inj{x y:V}{u:Value}(r:RelV x u)(q:RelV y u):x=y:=Option.some.inj (r.abs.symm.trans q.abs)
theorem Vals.inj:∀{xs ys:List V}{us:List Value},Vals xs us->Vals ys us->xs=ys
 |_,_,_,.nil,.nil=>rfl
 |_,_,_,.cons r t,.cons r' t'=>by rw [r.inj r',Vals.inj t t']
section
variable{X:Cx}{pins:List (Addr×Obj)}{σ:St}{H:Hp}{s:Shared}{a:Addr}{xs ys:List V}
theorem SqL.of{K:PySem.W.Frag}(h:H a=some (.lst xs)):SqL K H a xs := .inl (.inl h)
theorem SqT.of{K:PySem.W.Frag}(h:H a=some (.tup xs)):SqT K H a xs := .inl (.inl h)
theorem Inv.list(I:Inv X pins σ H s)(h:SqL X.K H a xs):∃its:List Value,Vals xs its/\PlainL s.heap a its.toArray/\xs.length<=sizeLine:=by
 rcases h with h|⟨o,its,n,hk,hc,hd,hs,hz,r⟩
 · obtain⟨z,its,n,r,e⟩:=h.ok I.hok
   exact⟨its,r,⟨_,n,e,rfl,rfl,rfl⟩,z⟩
 · refine⟨its.toList,r,⟨o,n,I.kIn a o hk,hc,hd,by simpa using hs⟩,?_⟩
   have e:=r.length;simp only [Array.length_toList]at e;omega
theorem Inv.tuple(I:Inv X pins σ H s)(h:SqT X.K H a xs):∃its:List Value,Vals xs its/\IsTup s.heap a its.toArray/\xs.length<=sizeLine:=by
 rcases h with h|⟨o,its,n,hk,hc,hs,hz,r⟩
 · obtain⟨z,its,r,p⟩:=h.ok I.hok
   exact⟨its,r,p.tup,z⟩
 · refine⟨its.toList,r,⟨o,I.kIn a o hk,hc,n,by simpa using hs⟩,?_⟩
   have e:=r.length;simp only [Array.length_toList]at e;omega
theorem Inv.list_inj(I:Inv X pins σ H s)(h:SqL X.K H a xs)(h':SqL X.K H a ys):xs=ys:=by
 obtain⟨its,r,⟨o,n,e,_,_,d⟩,_⟩:=I.list h;obtain⟨its',r',⟨o',n',e',_,_,d'⟩,_⟩:=I.list h';rw [e]at e';cases e';rw [d]at d';injection d' with d1 _
 have:its=its':=by simpa using congrArg Array.toList d1
 subst this;exact r.inj r'
theorem Inv.tuple_inj(I:Inv X pins σ H s)(h:SqT X.K H a xs)(h':SqT X.K H a ys):xs=ys:=by
 obtain⟨its,r,⟨o,e,_,n,d⟩,_⟩:=I.tuple h;obtain⟨its',r',⟨o',e',_,n',d'⟩,_⟩:=I.tuple h';rw [e]at e';cases e';rw [d]at d';injection d' with d1 _
 have:its=its':=by simpa using congrArg Array.toList d1
 subst this;exact r.inj r'
end
abbrev Cx.wish(X:Cx)(E:Value->Shared->Prop):Cx:={ X with xe:=E }
abbrev Cx.nox(X:Cx):Cx:=X.wish λ_ _=>False
theorem Cx.Ok.wish{X:Cx}(ok:X.Ok)(E:Value->Shared->Prop):(X.wish E).Ok:=
 ⟨ok.mod,ok.kind,ok.glob,ok.blt,ok.above,ok.inj,ok.has,ok.cab,ok.hd,ok.frames,ok.stk,ok.exf,ok.bs,ok.bsz,ok.noex,ok.exfs,ok.funs,ok.frf⟩
theorem Cx.Ok.unwish{X:Cx}{E:Value->Shared->Prop}(ok:(X.wish E).Ok):X.Ok:=
 ⟨ok.mod,ok.kind,ok.glob,ok.blt,ok.above,ok.inj,ok.has,ok.cab,ok.hd,ok.frames,ok.stk,ok.exf,ok.bs,ok.bsz,ok.noex,ok.exfs,ok.funs,ok.frf⟩
section
variable{X:Cx}{pins:List (Addr×Obj)}{σ:St}{H:Hp}{s:Shared}{E:Value->Shared->Prop}
theorem Inv.wish(I:Inv X pins σ H s)(E:Value->Shared->Prop):Inv (X.wish E) pins σ H s:=⟨I.ok.wish E,I.os,I.bare,I.base,I.loc,I.cell,I.free,I.freeC,I.pin,I.hok,I.len⟩
theorem Inv.unwish(I:Inv (X.wish E) pins σ H s):Inv X pins σ H s:=⟨I.ok.unwish,I.os,I.bare,I.base,I.loc,I.cell,I.free,I.freeC,I.pin,I.hok,I.len⟩
theorem SP.unwish{D:Ends}{f:Flow}{s':Shared}(h:SP (X.wish E) pins D f s'):SP X pins D f s':=by
 cases f with
 |next=>obtain⟨σ',H',I,q⟩:=h;exact⟨σ',H',I.unwish,q⟩
 |brk=>obtain⟨σ',H',I,q⟩:=h;exact⟨σ',H',I.unwish,q⟩
 |cont=>obtain⟨σ',H',I,q⟩:=h;exact⟨σ',H',I.unwish,q⟩
 |ret u=>obtain⟨v,σ',H',I,r,q⟩:=h;exact⟨v,σ',H',I.unwish,r,q⟩
theorem PSs.nox{st:List Stmt}{t:TS}(h:PSs X.nox st t):PSs X st t:=λpins s σ H D I hw=>
 wpAny_mono (h pins s σ H D (I.wish _) hw) (λ_ _ q=>q.unwish) λ_ _ z=>False.elim z
end
section
variable{X:Cx}{st:Stmt}{rest:List Stmt}{t u:TS}{e:Expr}{te:TE}{pos:Pos}
def tNext:TS:=λD σ H=>D.nx σ H
def Uu(t u:TS):TS:=λD σ H=>t { D with nx:=u D } σ H
theorem Ys:PSs X [] tNext:=λ_ _ σ H _ I h=>wpAny_execs_nil ⟨σ,H,I,h⟩
theorem Zv(h1:PS X st t)(h2:PSs X rest u):PSs X (st::rest) (Uu t u):=by
 intro pins s σ H D I h;refine wpAny_execs_cons (thn (h1 pins s σ H { D with nx:=u D } I h) λf s1 q => ?_);cases f with
 |next=>
  obtain⟨σ',H',I',q⟩:=q;exact h2 pins s1 σ' H' D I' q
 |ret v=>exact q
 |brk=>exact q
 |cont=>exact q
theorem ZC(h1:PS X st t):PSs X [st] t:=by
 intro pins s σ H D I h;refine wpAny_execs_cons (thn (h1 pins s σ H D I h) λf s1 q => ?_);cases f with
 |next=>exact wpAny_execs_nil q
 |ret v=>exact q
 |brk=>exact q
 |cont=>exact q
theorem Inv.quiet{pins:List (Addr×Obj)}{σ:St}{H:Hp}{s:Shared}(I:Inv X pins σ H s):interactive X.env=false:=by simp [interactive,I.ok.kind]
def Uv(te:TE):TS:=λD σ H=>te σ H λ_ H1=>D.nx σ H1
theorem Xy(he:PE X e te)(hs:swapsWith e none pos.line X.env=pure false:=by rfl):PS X (.Expr e pos) (Uv te):=by
 intro pins s σ H D I h;exact wpAny_Expr_any (thn (he pins s σ H _ I h) λv s1 ⟨x,H1,I1,r1,q1⟩=>⟨σ,H1,I1,q1⟩) I.quiet hs
def Zkc(te:TE):TS:=λD σ H=>te σ H D.rt
theorem ZQ(he:PE X e te):PS X (.Return (some e) pos) (Zkc te):=by
 intro pins s σ H D I h;exact wpAny_Return_some (thn (he pins s σ H _ I h) λv s1 ⟨x,H1,I1,r1,q1⟩=>⟨x,σ,H1,I1,r1,q1⟩)
def Zkd(c:TT)(t u:TS):TS:=λD σ H=>c σ H λb H1=>if b=true then t D σ H1 else u D σ H1
theorem Yp{c:Expr}{a b:List Stmt}{tc:TT}(hc:PT X c tc)(ha:PSs X a t)(hb:PSs X b u):PS X (.If c a b pos) (Zkd tc t u):=by
 intro pins s σ H D I h;refine wpAny_If (thn (hc pins s σ H _ I h) λd s1 ⟨H1,I1,q1⟩ => ?_);cases d with
 |true=>exact ha pins s1 σ H1 D I1 q1
 |false=>exact hb pins s1 σ H1 D I1 q1
end
abbrev TG:=V->St->Hp->(St->Hp->Prop)->Prop
abbrev TGs:=List V->St->Hp->(St->Hp->Prop)->Prop
def PG(X:Cx)(target:Expr)(t:TG):Prop:=
 ∀(pins:List (Addr×Obj))(s:Shared)(σ:St)(H:Hp)(v:V)(u:Value)(Q:St->Hp->Prop),Inv X pins σ H s->RelV v u->t v σ H Q ->
  wpAny (model X.prog X.w) X.A (assign target X.env u) (λ_ s'=>∃σ' H',Inv X pins σ' H' s'/\Q σ' H') X.xe s
def PGs(X:Cx)(ts:List Expr)(t:TGs):Prop:=
 ∀(pins:List (Addr×Obj))(s:Shared)(σ:St)(H:Hp)(vs:List V)(us:List Value)(Q:St->Hp->Prop),Inv X pins σ H s->Vals vs us->t vs σ H Q ->
  wpAny (model X.prog X.w) X.A (assignInOrder ((assignEach ts X.env).map (·.2)) us) (λ_ s'=>∃σ' H',Inv X pins σ' H' s'/\Q σ' H') X.xe s
abbrev TSet:=V->V->V->Hp->(Hp->Prop)->Prop
def ZlN(X:Cx)(t:TSet):Prop:=
 ∀(pins:List (Addr×Obj))(s:Shared)(σ:St)(H:Hp)(o i v:V)(ov iv u:Value)(Q:Hp->Prop),Inv X pins σ H s->RelV o ov->RelV i iv->RelV v u->t o i v H Q ->
  wpAny (model X.prog X.w) X.A (setItem ov iv u) (λ_ s'=>∃H',Inv X pins σ H' s'/\Q H') X.xe s
section
variable{X:Cx}{pos:Pos}
def Y8(i:Nat):TG:=λv σ H Q=>Q (σ.set i (some v)) H
theorem ZP{i:Nat}{x:Str}(hN:X.N.Nodup)(hi:X.N[i]? = some x:=by rfl)(hx:Loc X.env.scope x:=by first|exact Or.inl rfl|exact Or.inr rfl)(hf:X.fn x=true\/X.env.scope.names.lookup x=some .local:=by first|exact .inl rfl|exact .inr rfl|assumption):PG X (.Name x pos) (Y8 i):=by
 intro pins s σ H v u Q I r h;exact wpAny_assign_Name (ZcK I hN hi hx r (λs' I'=>⟨_,H,I',h⟩) hf)
def gNil:TGs:=λvs σ H Q=>vs=[]/\Q σ H
def Zir(t:TG)(u:TGs):TGs:=λvs σ H Q=>∃v r,vs=v::r/\t v σ H λσ' H'=>u r σ' H' Q
theorem U9:PGs X [] gNil:=by
 intro pins s σ H vs us Q I r h;obtain⟨e,h⟩:=h;subst e;cases r;exact assignInOrder_nil ⟨σ,H,I,h⟩
theorem Xz {e:Expr} {es:List Expr} {t:TG} {u:TGs} (h1:PG X e t) (h2:PGs X es u)
 (hs:(assignEach (e::es) X.env).map (·.2)=assign e X.env::(assignEach es X.env).map (·.2):=by rfl):PGs X (e::es) (Zir t u):=by
 intro pins s σ H vs us Q I r h;obtain⟨v,vr,e1,h⟩:=h;subst e1;cases r with
 |cons r rr=>
  rw [hs];refine assignInOrder_cons (thn (h1 pins s σ H _ _ _ I r h) λ_ s1 ⟨σ1,H1,I1,q1⟩ => ?_);exact h2 pins s1 σ1 H1 _ _ Q I1 rr q1
def Zke(K:PySem.W.Frag)(n:Nat)(t:TGs):TG:=λv σ H Q=>∃a xs,v = .ref a/\SqT K H a xs/\xs.length=n/\t xs σ H Q
theorem Zje {es:List Expr} {k:Nat} {t:TGs} {n:Nat} (hc:X.calm=true) (h:PGs X es t)
 (hn:(assignEach es X.env).length=n:=by rfl) (hst:(assignEach es X.env).findIdx? (·.1)=none:=by rfl):PG X (.Tuple es k pos) (Zke X.K n t):=by
 intro pins s σ H v u Q I r hw;obtain⟨a,xs,e1,hq,hl,hw⟩:=hw;subst e1;cases r;obtain⟨its,rv,ht,hz⟩:=I.tuple hq;refine assign_Tuple_tuple (I.ok.hd hc) ht (by simp [hn,<-hl,rv.length]) hst λh' hx => ?_
 have I1:Inv X pins σ H { s with heap:=h' }:=I.kept (t':=s.toks) λb o e=>hx b o (Nat.ne_of_lt (Heap.lt_size e)) e
 exact h pins _ σ H xs _ Q I1 (by simpa using rv) hw
def ZlO(to ti:TE)(t:TSet):TG:=λv σ H Q=>to σ H λo H1=>ti σ H1 λi H2=>t o i v H2 λH3=>Q σ H3
theorem ZdT {o i:Expr} {to ti:TE} {t:TSet} (ho:PE X o to) (hi:PE X i ti) (hs:ZlN X t)
 (ha:∀v,assign (.Subscript o i pos) X.env v=(do
   let ov <-holding [v] (eval o X.env)
   let iv <-holding [v,ov] (eval i X.env)
   standAt pos
   holding [v,ov,iv] (setItem ov iv v)
   release [v,ov,iv] []):=by intro _;rfl):PG X (.Subscript o i pos) (ZlO to ti t):=by
 intro pins s σ H v u Q I r h;rw [ha];refine wpAny_bind (wpAny_holding (thn (ho pins s σ H _ I h) λov s1 ⟨x,H1,I1,r1,q1⟩ => ?_));refine wpAny_bind (wpAny_holding (thn (hi pins s1 σ H1 _ I1 q1) λiv s2 ⟨y,H2,I2,r2,q2⟩ => ?_));refine wpAny_bind (wpAny_standAt (wpAny_bind (wpAny_holding (thn (hs pins s2 σ H2 x y v ov iv u _ I2 r1 r2 r q2) λ_ s3 ⟨H3,I3,q3⟩ => ?_))));exact wpAny_release ⟨σ,H3,I3,q3⟩
def X3(te:TE)(g:TG):TS:=λD σ H=>te σ H λx H1=>g x σ H1 D.nx
theorem Jj {tg e:Expr} {te:TE} {g:TG} (he:PE X e te) (hg:PG X tg g) (hs:swapsWithSole [tg] e pos.line X.env=pure false:=by rfl) (hw:swappedStores [tg] e X.env=pure none:=by rfl)
 (h1:(assignEach [tg] X.env).map (·.2)=[assign tg X.env]:=by rfl):PS X (.Assign [tg] e pos) (X3 te g):=by
 intro pins s σ H D I h;refine wpAny_Assign_stores (thn (he pins s σ H _ I h) λv s1 ⟨x,H1,I1,r1,q1⟩ => ?_) hs hw;rw [h1];exact thn (hg pins s1 σ H1 x v _ I1 r1 q1) λ_ s2 q=>q
theorem ZR{i:Nat}{x:Str}{e:Expr}{te:TE}{pos':Pos}(hN:X.N.Nodup)(hi:X.N[i]? = some x)(hx:Loc X.env.scope x)(he:PE X e te)(hs:swapsWith e (some (.Name x pos')) pos.line X.env=pure false:=by rfl)(hf:X.fn x=true\/X.env.scope.names.lookup x=some .local:=by first|exact .inl rfl|exact .inr rfl|assumption) :
 PS X (.Assign [.Name x pos'] e pos) (X3 te (Y8 i)):=by
 intro pins s σ H D I h;refine wpAny_Assign_Name (thn (he pins s σ H _ I h) λv s1 ⟨y,H1,I1,r1,q1⟩ => ?_) hs;exact ZcK I1 hN hi hx r1 (λs2 I2=>⟨_,H1,I2,q1⟩) hf
end
section
variable{X:Cx}{pos:Pos}
def ZdU(c:TT)(tb:TS):TS:=λD σ H=>∃W:Nat->St->Hp->Prop,(∃m,W m σ H)/\∀m σ H,W m σ H ->
 c σ H λb H1=>if b=true then ∃N:St->Hp->Prop,(∀σ' H',N σ' H'->∃m',m'<m/\W m' σ' H')/\tb { D with nx:=N,ct:=N,bk:=D.nx } σ H1 else D.nx σ H1
theorem Jk{c:Expr}{body:List Stmt}{tc:TT}{tb:TS}(hp:PassesOwn (model X.prog X.w) X.A X.env X.xe)(hc:PT X c tc)(hb:PSs X body tb):PS X (.While c body [] pos) (ZdU tc tb):=by
 intro pins s σ H D I h;obtain⟨W,⟨m0,w0⟩,turn⟩:=h;refine wpAny_While (codeAny_whileLoop (λn s'=>∃σ' H',Inv X pins σ' H' s'/\W n σ' H') ?_ m0 ⟨σ,H,I,w0⟩)
 rintro n s1 ⟨σ1,H1,I1,w1⟩
 refine wpAny_passesOwn hp (thn (hc pins s1 σ1 H1 _ I1 (turn n σ1 H1 w1)) λb s2 ⟨H2,I2,q2⟩ => ?_);cases b with
 |true=>
  obtain⟨N,hN,q2⟩:=q2;rw [if_pos rfl];refine wpAny_passesOwn hp (thn (hb pins s2 σ1 H2 _ I2 q2) λf s3 q3 => ?_);cases f with
  |next=>
   obtain⟨σ3,H3,I3,n3⟩:=q3;obtain⟨m',hm,w3⟩:=hN σ3 H3 n3;exact⟨m',hm,σ3,H3,I3,w3⟩
  |cont=>
   obtain⟨σ3,H3,I3,n3⟩:=q3;obtain⟨m',hm,w3⟩:=hN σ3 H3 n3;exact⟨m',hm,σ3,H3,I3,w3⟩
  |brk=>exact q3
  |ret v=>exact q3
 |false=>
  rw [if_neg Bool.false_ne_true];exact wpAny_execs_nil ⟨σ1,H2,I2,q2⟩
end
structure It where
 go:Nat->Hp->Prop
 yld:Nat->Hp->V->Hp->Prop
 stop:Nat->Hp->Prop
def XA(X:Cx)(pins:List (Addr×Obj))(H:Hp)(b:Addr):Prop:=
 H b=none/\b≠X.env.locals/\b∉X.fs/\(b∈X.ex\/X.s₀.heap.objs.size<=b)/\(∀x c,X.env.cells.lookup x=some c->c≠b)/\∀p∈X.pn++pins,p.1≠b
theorem Inv.fpOk{X:Cx}{pins:List (Addr×Obj)}{σ:St}{H H':Hp}{s:Shared}{b:Addr}(I:Inv X pins σ H s)(hb:s.heap.objs.size<=b)(hn:H' b=none):XA X pins H' b:=by
 refine⟨hn,Nat.ne_of_gt (Nat.lt_of_lt_of_le I.lt hb),I.nofs hb,.inr (Nat.le_trans I.sz hb),λx c e z => ?_,λp hp z => ?_⟩
 · obtain⟨v,q⟩:=I.cell x c e
   exact absurd (Nat.lt_of_lt_of_le q.lt (by rw [z];exact hb)) (Nat.lt_irrefl _)
 · exact absurd (Nat.lt_of_lt_of_le (Heap.lt_size (I.pin p hp).1) (by rw [z];exact hb)) (Nat.lt_irrefl _)
structure Turn(P:Program)(w:World)(K:PySem.W.Frag)(tg:Expr)(J:It)(fp:List Addr)(it:Addr)(tn:Nat->Heap->Prop):Prop where
 mem:it∈fp
 obj:∀i h,tn i h->∀b∈fp,∃o,h.get? b=some o/\∀v,o.data ≠ .cell v
 keep:∀i h h',tn i h->(∀b∈fp,∀o,h.get? b=some o->h'.get? b=some o)->tn i h'
 item:∀(X:Cx),X.prog=P->X.w=w->X.K=K->X.calm=true->∀(i:Nat)(pins:List (Addr×Obj))(s:Shared)(σ:St)(H:Hp)(E:Value->Shared->Prop),Inv X pins σ H s->(∀b∈fp,XA X pins H b)->tn i s.heap->J.go i H ->
  wpAny (model P w) X.A (pyNext (.ref it)) (λr s1=>∃u,r=some u /\
   wpAny (model P w) X.A (letOwnedTupleGo tg (.ref it) u) (λ_ s2=>∃x H',Inv X pins σ H' s2/\RelV x u/\J.yld i H x H'/\tn (i+1) s2.heap/\∀b∈fp,H' b=none) E s1) E s
 done:∀(X:Cx),X.prog=P->X.w=w->X.K=K->X.calm=true->∀(i:Nat)(pins:List (Addr×Obj))(s:Shared)(σ:St)(H:Hp)(E:Value->Shared->Prop),Inv X pins σ H s->(∀b∈fp,XA X pins H b)->tn i s.heap->J.stop i H ->
  wpAny (model P w) X.A (pyNext (.ref it)) (λr s1=>r=none/\Inv X pins σ H s1) E s
 self:∀(A:Around)(i:Nat)(s:Shared)(Q:Value->Shared->Prop)(E:Value->Shared->Prop),tn i s.heap->Q (.ref it) s->wpAny (model P w) A (pyIter (.ref it)) Q E s
abbrev TI:=St->Hp->(It->Hp->Prop)->Prop
def PIE(X:Cx)(pins:List (Addr×Obj))(σ:St)(tg:Expr)(R:It->Hp->Prop)(itv:Value)(s2:Shared):Prop:=
 ∃(it:Addr) (fp:List Addr) (tn:Nat->Heap->Prop) (J:It) (H':Hp),itv = .ref it/\Inv X pins σ H' s2/\Turn X.prog X.w X.K tg J fp it tn/\tn 0 s2.heap/\(∀b∈fp,XA X pins H' b)/\R J H'
def PI(X:Cx)(tg iter:Expr)(wi:TI):Prop:=
 ∀(pins:List (Addr×Obj))(s:Shared)(σ:St)(H:Hp)(R:It->Hp->Prop),Inv X pins σ H s->wi σ H R ->
  wpAny (model X.prog X.w) X.A (eval iter X.env) (λv s1=>wpAny (model X.prog X.w) X.A (pyIter v) (PIE X pins σ tg R) X.xe s1) X.xe s
theorem Jl {M:Model} {A:Around} {E:Value->Shared->Prop} {s:Shared} {tg:Expr} {it:Addr} {u:Value} {o:Obj} {n:String} {vs:Array Value} {Q:Unit->Shared->Prop} (ho:s.heap.get? it=some o) (hc:o.cls = .type n) (hd:o.data = .fields vs)
 (hn:["enumerate", "zip", "dict_itemiterator", "dict_reverseitemiterator", "odict_iterator", "itertools.zip_longest", "itertools.pairwise"].contains n=false) (hQ:Q () s):wpAny M A (letOwnedTupleGo tg (.ref it) u) Q E s:=by
 unfold letOwnedTupleGo
 cases tg<;>first
  |exact wpAny_pure hQ
  | (cases u <;> first
      |exact wpAny_pure hQ
      | (refine wpAny_bind (wpAny_load ho ?_)
         rw [hc,hd];show wpAny M A (if(["enumerate", "zip", "dict_itemiterator", "dict_reverseitemiterator", "odict_iterator", "itertools.zip_longest", "itertools.pairwise"].contains n&&vs[0]? == some (rawInt _))=true then _ else _) Q E s;rw [if_neg (by intro h;rw [hn,Bool.false_and]at h;cases h)];exact wpAny_pure hQ))
def Itl(K:PySem.W.Frag)(a:Addr):It:=
 ⟨λi H=>∃xs x,SqL K H a xs/\xs[i]? = some x,λi H x H'=>H'=H/\∀xs,SqL K H a xs->xs[i]? = some x,λi H=>∃xs,SqL K H a xs/\xs.length<=i⟩
def Itt(K:PySem.W.Frag)(a:Addr):It:=
 ⟨λi H=>∃xs x,SqT K H a xs/\xs[i]? = some x,λi H x H'=>H'=H/\∀xs,SqT K H a xs->xs[i]? = some x,λi H=>∃xs,SqT K H a xs/\xs.length<=i⟩
def Itr(lo:Int)(n:Nat):It:=⟨λi _=>i<n,λi H x H'=>H'=H/\x = .int (lo+i),λi _=>n<=i⟩
theorem ZeT{P:Program}{w:World}{K:PySem.W.Frag}{tg:Expr}(a it:Addr):Turn P w K tg (Itl K a) [it] it (λi h=>h.IsListIter it a i) where
 mem:=by simp
 obj:=λi h st b hb=>by
  have e:b=it:=by simpa using hb
  subst e;obtain⟨o,e,c,d⟩:=st;exact⟨o,e,λv z=>by rw [d]at z;cases z⟩
 keep:=λi h h' st k=>st.at λo e=>k it (by simp) o e
 item:=by
  intro X hP hw hK hc i pins s σ H E I hf st hg;subst hP hw hK;obtain⟨xs,x,hq,hx⟩:=hg;obtain⟨its,rv,p,hz⟩:=I.list hq;obtain⟨u,hu,ru⟩:=rv.get hx;obtain⟨f0,f1,f2,f3,f4,f5⟩:=hf it (by simp);refine wpAny_pyNext_list_item st p.isList (x:=u) (by simpa using hu) λh' st' sb => ?_
  have I1:Inv X pins σ H { s with heap:=h' }:=I.turned (t':=s.toks) (λb o hb e=>(sb.2 b hb).trans e) f0 f1 f3 f4 f5;obtain⟨o,e,c,d⟩:=id st';exact⟨u,rfl,Jl (s:={ s with heap:=h' }) e c d (by decide) ⟨x,H,I1,ru,⟨rfl,λys hy=>by rw [I.list_inj hy hq];exact hx⟩,st',λb hb=>(hf b hb).1⟩⟩
 done:=by
  intro X hP hw hK hc i pins s σ H E I hf st hg;subst hP hw hK;obtain⟨xs,hq,hx⟩:=hg;obtain⟨its,rv,p,hz⟩:=I.list hq;obtain⟨f0,f1,f2,f3,f4,f5⟩:=hf it (by simp);have hl:=rv.length;exact wpAny_pyNext_list_end (I.ok.hd hc) st p.isList (by simp;omega) λh' eb=>⟨rfl,I.turned (t':=s.toks) (λb o hb e=>eb b o hb e) f0 f1 f3 f4 f5⟩
 self:=λ_ _ _ _ _ st h=>wpAny_pyIter_listiter st h
theorem ZaX{P:Program}{w:World}{K:PySem.W.Frag}{tg:Expr}(a it:Addr):Turn P w K tg (Itt K a) [it] it (λi h=>h.IsTupleIter it a i) where
 mem:=by simp
 obj:=λi h st b hb=>by
  have e:b=it:=by simpa using hb
  subst e;obtain⟨o,e,c,d⟩:=st;exact⟨o,e,λv z=>by rw [d]at z;cases z⟩
 keep:=λi h h' st k=>st.at λo e=>k it (by simp) o e
 item:=by
  intro X hP hw hK hc i pins s σ H E I hf st hg;subst hP hw hK;obtain⟨xs,x,hq,hx⟩:=hg;obtain⟨its,rv,p,hz⟩:=I.tuple hq;obtain⟨u,hu,ru⟩:=rv.get hx;obtain⟨f0,f1,f2,f3,f4,f5⟩:=hf it (by simp);refine wpAny_pyNext_tuple_item st (show s.heap.IsTuple a its.toArray from p) (x:=u) (by simpa using hu) λh' st' sb => ?_
  have I1:Inv X pins σ H { s with heap:=h' }:=I.turned (t':=s.toks) (λb o hb e=>(sb.2 b hb).trans e) f0 f1 f3 f4 f5;obtain⟨o,e,c,d⟩:=id st';exact⟨u,rfl,Jl (s:={ s with heap:=h' }) e c d (by decide) ⟨x,H,I1,ru,⟨rfl,λys hy=>by rw [I.tuple_inj hy hq];exact hx⟩,st',λb hb=>(hf b hb).1⟩⟩
 done:=by
  intro X hP hw hK hc i pins s σ H E I hf st hg;subst hP hw hK;obtain⟨xs,hq,hx⟩:=hg;obtain⟨its,rv,p,hz⟩:=I.tuple hq;obtain⟨f0,f1,f2,f3,f4,f5⟩:=hf it (by simp);have hl:=rv.length;exact wpAny_pyNext_tuple_end (I.ok.hd hc) st (show s.heap.IsTuple a its.toArray from p) (by simp;omega) λh' eb=>⟨rfl,I.turned (t':=s.toks) (λb o hb e=>eb b o hb e) f0 f1 f3 f4 f5⟩
 self:=λ_ _ _ _ _ st h=>wpAny_pyIter_tupleiter st h
theorem Zdm{P:Program}{w:World}{K:PySem.W.Frag}{tg:Expr}(it:Addr)(lo:Int)(n:Nat):Turn P w K tg (Itr lo n) [it] it (λi h=>IsRangeIter h it (lo+(i:Nat)*1) ((n:Int)-(i:Nat)) 1) where
 mem:=by simp
 obj:=λi h st b hb=>by
  have e:b=it:=by simpa using hb
  subst e
  exact⟨_,st,λv z=>by
   have z':Data.fields _=Data.cell v:=z;cases z'⟩
 keep:=λi h h' st k=>k it (by simp) _ st
 item:=by
  intro X hP hw hK hc i pins s σ H E I hf st hg;subst hP hw hK;obtain⟨f0,f1,f2,f3,f4,f5⟩:=hf it (by simp);have W:=Walks.range (prog:=X.prog) (w:=X.w) (I.ok.hd hc) it lo 1 n;refine W.item i s _ _ hg st λv h' tk hv st' kk => ?_
  obtain⟨t,rfl⟩:=hv;have I1:Inv X pins σ H { s with heap:=h',toks:=tk }:=I.turned (λb o hb e=>kk b o (by simpa using hb) e) f0 f1 f3 f4 f5;refine⟨_,rfl,Jl (s:={ s with heap:=h',toks:=tk }) (n:="range_iterator") st' rfl rfl (by decide) ⟨.int (lo+i),H,I1,⟨t,?_⟩,⟨rfl,rfl⟩,st',λb hb=>(hf b hb).1⟩⟩;rw [Int.mul_one]
 done:=by
  intro X hP hw hK hc i pins s σ H E I hf st hg;subst hP hw hK;obtain⟨f0,f1,f2,f3,f4,f5⟩:=hf it (by simp);exact wpAny_pyNext_range_end (I.ok.hd hc) st (by have:n<=i:=hg;omega) λh' eb=>⟨rfl,I.turned (t':=s.toks) (λb o hb e=>eb b o hb e) f0 f1 f3 f4 f5⟩
 self:=λ_ _ _ _ _ st h=>wpAny_pyIter_rangeiter st h
end L2
namespace L2
open PySem PySem.Spec PyProof.Rows
section
variable{X:Cx}{tg:Expr}
def Zmm(K:PySem.W.Frag)(tl:TE):TI:=λσ H R=>tl σ H λx H1=>∃a,x = .ref a/\(∃xs,SqT K H1 a xs)/\R (Itt K a) H1
theorem Zjf{l:Expr}{tl:TE}(hl:PE X l tl):PI X tg l (Zmm X.K tl):=by
 intro pins s σ H R I h;refine thn (hl pins s σ H _ I h) λv s1 ⟨x,H1,I1,r1,q1⟩ => ?_
 obtain⟨a,e,⟨xs,hq⟩,q⟩:=q1;subst e;cases r1;obtain⟨its,rv,p,hz⟩:=I1.tuple hq;refine wpAny_pyIter_tuple (show s1.heap.IsTuple a its.toArray from p) ?_;refine⟨s1.heap.objs.size,[s1.heap.objs.size],_,_,H1,rfl,I1.kept (t':=s1.toks) λb o e=>Heap.get?_push_of_some _ e,ZaX a _,⟨_,Heap.get?_push_size _ rfl,rfl,rfl⟩,λb hb => ?_,q⟩;have e:b=s1.heap.objs.size:=by simpa using hb
 subst e;exact I1.fpOk (Nat.le_refl _) (I1.hok.fresh (Nat.le_refl _))
theorem ZcL {pins:List (Addr×Obj)} {σ:St} {H:Hp} {s:Shared} {R:It->Hp->Prop} {E:Value->Shared->Prop} {lo hi:Int} {t u v:Tok} {tk:Nat} (I:Inv X pins σ H s) (h1 : -(2 ^ 62)<=lo) (h2:lo<2 ^ 62) (h3 : -(2 ^ 62)<=hi) (h4:hi<2 ^ 62)
 (q:R (Itr lo (hi-lo).toNat) H):wpAny (model X.prog X.w) X.A (pyIter (.ref s.heap.objs.size)) (PIE X pins σ tg R) E { s with heap:=s.heap.push { cls := .type "range",data := .fields #[.int lo t,.int hi u,.int 1 v] },toks:=tk }:=by
 refine wpAny_pyIter_range (IsRange.new ..) (small_one h1 h2 h3 h4) ?_;have I1:Inv X pins σ H { s with heap:=s.heap.push { cls := .type "range",data := .fields #[.int lo t,.int hi u,.int 1 v] },toks:=tk }:=I.kept λb o e=>Heap.get?_push_of_some _ e
 refine⟨(s.heap.push { cls := .type "range",data := .fields #[.int lo t,.int hi u,.int 1 v] }).objs.size,[(s.heap.push { cls := .type "range",data := .fields #[.int lo t,.int hi u,.int 1 v] }).objs.size],_,_,H,rfl,
  I1.kept (t':=tk) λb o e=>Heap.get?_push_of_some _ e,Zdm _ lo (hi-lo).toNat,?_,λb hb => ?_,q⟩
 · have e1:lo+((0:Nat):Int)*1=lo:=by simp
   have e2:(((hi-lo).toNat:Nat):Int)-((0:Nat):Int)=Builtin.Range.rangeSize lo hi 1:=by rw [rangeSize_one];split<;>omega
   show IsRangeIter _ _ (lo+((0:Nat):Int)*1) ((((hi-lo).toNat:Nat):Int)-((0:Nat):Int)) 1;rw [e1,e2];exact Heap.get?_push_size _ rfl
 · have e:b=(s.heap.push { cls := .type "range",data := .fields #[.int lo t,.int hi u,.int 1 v] }).objs.size:=by simpa using hb
   subst e;exact I1.fpOk (Nat.le_refl _) (I1.hok.fresh (Nat.le_refl _))
def ZgX(ta:TA):TI:=λσ H R=>ta σ H λvs H1=>∃j:Int,vs=[.int j] /\ -(2 ^ 62)<=j/\j<2 ^ 62/\R (Itr 0 j.toNat) H1
def Zis(ta:TA):TI:=λσ H R=>ta σ H λvs H1=>∃i j:Int,vs=[.int i,.int j]/\(-(2 ^ 62)<=i/\i<2 ^ 62 /\ -(2 ^ 62)<=j/\j<2 ^ 62)/\R (Itr i (j-i).toNat) H1
theorem X4 {a:Expr} {ta:TA} {p pos:Pos} (hg:Gl X "range") (hm:X.mg "range" = none) (ha:PA X [a] ta) (hs:starEach [a] X.env=[(false,eval a X.env)]:=by rfl):PI X tg (.Call (.Name "range" p) [a] [] pos) (ZgX ta):=by
 intro pins s σ H R I h;refine Call_ (UR I hg hm boot_range (PyProof.Rows.callWith_type1 (thn (ha pos pins s σ H _ I h) λus s1 ⟨vs,H1,I1,r1,q1⟩ => ?_) hs rfl));obtain⟨j,e,q1,q2,q⟩:=q1;subst e;cases r1 with
 |cons r rr=>
  cases rr;obtain⟨t,rfl⟩:=r;exact call_range_1 (ZcL I1 (by omega) (by omega) q1 q2 (by simpa using q))
theorem ZeU {a b:Expr} {ta:TA} {p pos:Pos} (hg:Gl X "range") (hm:X.mg "range" = none) (ha:PA X [a,b] ta) (hs:starEach [a,b] X.env=[(false,eval a X.env),(false,eval b X.env)]:=by rfl) (hs2:starEach [b] X.env=[(false,eval b X.env)]:=by rfl) :
 PI X tg (.Call (.Name "range" p) [a,b] [] pos) (Zis ta):=by
 intro pins s σ H R I h;refine Call_ (UR I hg hm boot_range (PyProof.Rows.callWith_type1 (thn (ha pos pins s σ H _ I h) λus s1 ⟨vs,H1,I1,r1,q1⟩ => ?_) (by rw [hs,hs2]) (by rw [hs2];rfl)));obtain⟨i,j,e,⟨q1,q2,q3,q4⟩,q⟩:=q1;subst e;cases r1 with
 |cons r rr=>
  cases rr with
  |cons r' rr=>
   cases rr;obtain⟨t,rfl⟩:=r;obtain⟨t',rfl⟩:=r';exact call_range_2 (ZcL I1 q1 q2 q3 q4 q)
def VW(wi:TI)(g:TG)(tb:TS):TS:=λD σ H=>wi σ H λJ H1=>∃W:Nat->Nat->St->Hp->Prop,(∃m,W 0 m σ H1)/\∀i m σ H,W i m σ H ->
 (J.stop i H/\D.nx σ H)\/(J.go i H/\∃N:St->Hp->Prop,(∀σ' H',N σ' H'->∃m',m'<m/\W (i+1) m' σ' H')/\∀x H',J.yld i H x H'->g x σ H' λσ2 H2=>tb { D with nx:=N,ct:=N,bk:=D.nx } σ2 H2)
def Vi(fp:List Addr)(h:Heap):List (Addr×Obj):=fp.filterMap λb=>(h.get? b).map λo=>(b,o)
theorem Jm{fp:List Addr}{h:Heap}{b:Addr}{o:Obj}(hb:b∈fp)(e:h.get? b=some o):(b,o)∈Vi fp h:=List.mem_filterMap.mpr ⟨b,hb,by rw [e];rfl⟩
theorem Zbs{fp:List Addr}{h:Heap}{p:Addr×Obj}(hp:p∈Vi fp h):p.1∈fp/\h.get? p.1=some p.2:=by
 obtain⟨b,hb,e⟩:=List.mem_filterMap.mp hp;cases q:h.get? b with
 |none=>rw [q]at e;cases e
 |some o=>
  rw [q]at e;have e':(b,o)=p:=Option.some.inj e;subst e';exact⟨hb,q⟩
theorem Inv.pinned{pins:List (Addr×Obj)}{σ:St}{H:Hp}{s:Shared}{fp:List Addr}(I:Inv X pins σ H s)(hf:∀b∈fp,XA X pins H b)(ho:∀b∈fp,∃o,s.heap.get? b=some o/\∀v,o.data ≠ .cell v):Inv X (pins++Vi fp s.heap) σ H s:=
 I.pins_of λp hp=>(List.mem_append.mp hp).elim (λz=>I.pin p (List.mem_append_right _ z)) λz=>by
  obtain⟨hb,e⟩:=Zbs z;obtain⟨f0,f1,f2,_⟩:=hf p.1 hb;obtain⟨o,e',d⟩:=ho p.1 hb;rw [e]at e';cases e';exact⟨e,f0,f1,f2,d⟩
theorem Inv.unpinned{pins pl:List (Addr×Obj)}{σ:St}{H:Hp}{s:Shared}(I:Inv X (pins++pl) σ H s):Inv X pins σ H s:=I.pins_of λp hp=>I.pin p (List.mem_append_right _ (List.mem_append_left _ hp))
theorem XB {iter:Expr} {body:List Stmt} {wi:TI} {g:TG} {tb:TS} {pos:Pos} (hp:PassesOwn (model X.prog X.w) X.A X.env X.xe) (hc:X.calm=true) (hi:PI X tg iter wi) (hg:PG X tg g) (hb:PSs X body tb)
 (hs:∀x,foldedSetIterable iter X.env x=pure x:=by intro _;rfl):PS X (.For tg iter body [] pos) (VW wi g tb):=by
 intro pins s σ H D I h;refine wpAny_For (thn (hi pins s σ H _ I h) λv s1 h1=>thn h1 λitv s2 h2 => ?_) hs;obtain⟨it,fp,tn,J,H2,e,I2,T,st2,f2,W,⟨m0,w0⟩,turn⟩:=h2;subst e;have stat:∀{H':Hp},(∀b∈fp,H' b=none)->∀b∈fp,XA X pins H' b:=λhn b hb=>⟨hn b hb,(f2 b hb).2⟩
 refine codeAny_forLoop_any (λn s'=>∃i σ' H',Inv X pins σ' H' s'/\tn i s'.heap/\(∀b∈fp,H' b=none)/\W i n σ' H') ?_ m0 ⟨0,σ,H2,I2,st2,λb hb=>(f2 b hb).1,w0⟩
 rintro n s3 ⟨i,σ3,H3,I3,st3,fr3,w3⟩
 rcases turn i n σ3 H3 w3 with⟨stop,qn⟩|⟨go,N,hN,step⟩
 · refine wpAny_passesOwn hp (thn (T.done X rfl rfl rfl hc i pins s3 σ3 H3 X.xe I3 (stat fr3) st3 stop) λr s4 ⟨hr,I4⟩ => ?_)
   subst hr;exact wpAny_execs_nil ⟨σ3,H3,I4,qn⟩
 · refine wpAny_passesOwn hp (thn (T.item X rfl rfl rfl hc i pins s3 σ3 H3 X.xe I3 (stat fr3) st3 go) λr s4 ⟨u,hr,h4⟩ => ?_)
   subst hr;refine wpAny_passesOwn hp (thn h4 λ_ s5 ⟨x,H5,I5,r5,y5,st5,fr5⟩ => ?_);have I5':=I5.pinned (stat fr5) (T.obj _ _ st5);refine wpAny_passesOwn hp (thn (hg _ s5 σ3 H5 x u _ I5' r5 (step x H5 y5)) λ_ s6 ⟨σ6,H6,I6,q6⟩ => ?_);refine wpAny_passesOwn hp (thn (hb _ s6 σ6 H6 _ I6 q6) λf s7 q7 => ?_)
   have again:∀{σ7:St}{H7:Hp},Inv X (pins++Vi fp s5.heap) σ7 H7 s7->N σ7 H7->∃m,m<n/\∃i σ' H',Inv X pins σ' H' s7/\tn i s7.heap/\(∀b∈fp,H' b=none)/\W i m σ' H':=λ{σ7 H7} I7 n7=>by
    obtain⟨m',hm,w7⟩:=hN σ7 H7 n7;refine⟨m',hm,i+1,σ7,H7,I7.unpinned,T.keep _ _ _ st5 λb hb o e=>(I7.pin (b,o) (List.mem_append_right _ (List.mem_append_right _ (Jm hb e)))).1,λb hb => ?_,w7⟩;obtain⟨o,e,d⟩:=T.obj _ _ st5 b hb;exact(I7.pin (b,o) (List.mem_append_right _ (List.mem_append_right _ (Jm hb e)))).2.1
   cases f with
   |next=>obtain⟨σ7,H7,I7,n7⟩:=q7;exact again I7 n7
   |cont=>obtain⟨σ7,H7,I7,n7⟩:=q7;exact again I7 n7
   |brk=>obtain⟨σ7,H7,I7,q7⟩:=q7;exact⟨σ7,H7,I7.unpinned,q7⟩
   |ret v=>obtain⟨x7,σ7,H7,I7,r7,q7⟩:=q7;exact⟨x7,σ7,H7,I7.unpinned,r7,q7⟩
end
end L2
namespace L2
open PySem PySem.Spec PyProof.Rows
abbrev R2:=V->V->Hp->VK->Prop
def OpR(X:Cx)(f:Value->Value->Sem Value)(r:R2):Prop:=
 ∀(pins:List (Addr×Obj))(s:Shared)(σ:St)(H:Hp)(x y:V)(v u:Value)(Q:VK),Inv X pins σ H s->RelV x v->RelV y u->r x y H Q ->
  wpAny (model X.prog X.w) X.A (f v u) (EP X pins σ Q) X.xe s
def UnR(X:Cx)(f:Value->Sem Value)(r:V->Hp->VK->Prop):Prop:=
 ∀(pins:List (Addr×Obj))(s:Shared)(σ:St)(H:Hp)(x:V)(v:Value)(Q:VK),Inv X pins σ H s->RelV x v->r x H Q ->
  wpAny (model X.prog X.w) X.A (f v) (EP X pins σ Q) X.xe s
def Ym(X:Cx)(f:Value)(r:List V->Hp->VK->Prop):Prop:=
 ∀(pins:List (Addr×Obj))(s:Shared)(σ:St)(H:Hp)(xs:List V)(us:List Value)(Q:VK),Inv X pins σ H s->Vals xs us->r xs H Q ->
  wpAny (model X.prog X.w) X.A (call f us) (EP X pins σ Q) X.xe s
def tOp(r:R2)(ta tb:TE):TE:=λσ H Q=>ta σ H λx H1=>tb σ H1 λy H2=>r x y H2 Q
def tUn(r:V->Hp->VK->Prop)(ta:TE):TE:=λσ H Q=>ta σ H λx H1=>r x H1 Q
def rI(C:Int->Int->Prop)(g:Int->Int->V):R2:=λx y H Q=>∃i j,x = .int i/\y = .int j/\C i j/\Q (g i j) H
def rI0(g:Int->Int->V):R2:=λx y H Q=>∃i j,x = .int i/\y = .int j/\Q (g i j) H
def rU(g:Int->V):V->Hp->VK->Prop:=λx H Q=>∃i,x = .int i/\Q (g i) H
section
variable{X:Cx}{a b c:Expr}{ta tb tc:TE}{pos:Pos}
theorem Zkf (ha:PE X a ta) (hb:PE X b tb) {pins:List (Addr×Obj)} {s:Shared} {σ:St} {H:Hp} {R:V->V->Hp->Prop} (I:Inv X pins σ H s)
 (h:ta σ H λx H1=>tb σ H1 λy H2=>R x y H2) {Q:Value->Shared->Prop} {f:Value->Value->Sem Value}
 (hf:∀v u s2 x y H2,Inv X pins σ H2 s2->RelV x v->RelV y u->R x y H2->wpAny (model X.prog X.w) X.A (f v u) Q X.xe s2) :
 wpAny (model X.prog X.w) X.A (eval a X.env) (λv s₁=>wpAny (model X.prog X.w) X.A (eval b X.env) (λu s₂=>wpAny (model X.prog X.w) X.A (f v u) Q X.xe s₂) X.xe s₁) X.xe s:=by
 refine thn (ha pins s σ H _ I h) λv s1 ⟨x,H1,I1,r1,q1⟩ => ?_
 refine thn (hb pins s1 σ H1 _ I1 q1) λu s2 ⟨y,H2,I2,r2,q2⟩ => ?_
 exact hf v u s2 x y H2 I2 r1 r2 q2
theorem ZD{op:Operator}{r:R2}(ho:OpR X (binaryOp op) r)(ha:PE X a ta)(hb:PE X b tb):PE X (.BinOp a op b pos) (tOp r ta tb):=by
 intro pins s σ H Q I h;exact wpAny_BinOp (Zkf ha hb I h λv u s2 x y H2 I2 rx ry q=>ho pins s2 σ H2 x y v u Q I2 rx ry q)
theorem QI{op:UnaryOp}{r:V->Hp->VK->Prop}(ho:UnR X (unaryOp op) r)(ha:PE X a ta):PE X (.UnaryOp op a pos) (tUn r ta):=by
 intro pins s σ H Q I h;exact UnaryOp_ (thn (ha pins s σ H _ I h) λv s1 ⟨x,H1,I1,r1,q1⟩=>ho pins s1 σ H1 x v Q I1 r1 q1)
theorem opI {f:Value->Value->Sem Value} {C:Int->Int->Prop} {g:Int->Int->Int}
 (rule:∀(i j:Int)(t u:Tok)(s:Shared)(Q:Value->Shared->Prop)(E:Value->Shared->Prop),C i j->Q (.int (g i j) s.toks) { s with toks:=s.toks+1 }->wpAny (model X.prog X.w) X.A (f (.int i t) (.int j u)) Q E s) :
 OpR X f (rI C λi j => .int (g i j)):=by
 intro pins s σ H x y v u Q I rx ry h;obtain⟨i,j,rfl,rfl,hc,q⟩:=h;obtain⟨t,rfl⟩:=rx;obtain⟨t',rfl⟩:=ry;exact rule i j t t' s _ _ hc ⟨.int (g i j),H,I.tok _,⟨_,rfl⟩,q⟩
theorem ZlP {f:Value->Value->Sem Value} {g:Int->Int->Int}
 (rule:∀(i j:Int)(t u:Tok)(s:Shared)(Q:Value->Shared->Prop)(E:Value->Shared->Prop),Q (.int (g i j) s.toks) { s with toks:=s.toks+1 }->wpAny (model X.prog X.w) X.A (f (.int i t) (.int j u)) Q E s) :
 OpR X f (rI0 λi j => .int (g i j)):=by
 intro pins s σ H x y v u Q I rx ry h;obtain⟨i,j,rfl,rfl,q⟩:=h;obtain⟨t,rfl⟩:=rx;obtain⟨t',rfl⟩:=ry;exact rule i j t t' s _ _ ⟨.int (g i j),H,I.tok _,⟨_,rfl⟩,q⟩
theorem Zkg {f:Value->Value->Sem Value} {g:Int->Int->Bool}
 (rule:∀(i j:Int)(t u:Tok)(s:Shared)(Q:Value->Shared->Prop)(E:Value->Shared->Prop),Q (.bool (g i j)) s->wpAny (model X.prog X.w) X.A (f (.int i t) (.int j u)) Q E s) :
 OpR X f (rI0 λi j => .bl (g i j)):=by
 intro pins s σ H x y v u Q I rx ry h;obtain⟨i,j,rfl,rfl,q⟩:=h;obtain⟨t,rfl⟩:=rx;obtain⟨t',rfl⟩:=ry;exact rule i j t t' s _ _ ⟨.bl (g i j),H,I,rfl,q⟩
def QJ(i j:Int):Prop:=0<j/\j<1073741824
def ZlQ(i j:Int):Prop:=0<=j/\j<=1000000/\i.natAbs<2 ^ 64
def CMul(i j:Int):Prop:=(-(2 ^ 64)<i/\i<2 ^ 64)\/(-(2 ^ 64)<j/\j<2 ^ 64)
theorem CMul.ok{i j:Int}(h:CMul i j):IntMulOk i j:=by
 rcases h with⟨h1,h2⟩|⟨h1,h2⟩
 · exact .of_left (intBits_le_64 h1 h2)
 · exact .of_right (intBits_le_64 h1 h2)
theorem op_add:OpR X (binaryOp .Add) (rI0 λi j => .int (i+j)):=ZlP λ_ _ _ _ _ _ _ q=>add_int q
theorem Jn:OpR X (binaryOp .Sub) (rI0 λi j => .int (i-j)):=ZlP λ_ _ _ _ _ _ _ q=>sub_int q
theorem Y1:OpR X (binaryOp .Mod) (rI (λ_ j=>j≠0) λi j => .int (i.fmod j)):=opI λ_ _ _ _ _ _ _ hc q=>mod_int' hc q
theorem unI {f:Value->Sem Value} {g:Int->Int}
 (rule:∀(i:Int)(t:Tok)(s:Shared)(Q:Value->Shared->Prop)(E:Value->Shared->Prop),Q (.int (g i) s.toks) { s with toks:=s.toks+1 }->wpAny (model X.prog X.w) X.A (f (.int i t)) Q E s) :
 UnR X f (rU λi => .int (g i)):=by
 intro pins s σ H x v Q I rx h;obtain⟨i,rfl,q⟩:=h;obtain⟨t,rfl⟩:=rx;exact rule i t s _ _ ⟨.int (g i),H,I.tok _,⟨_,rfl⟩,q⟩
theorem QK:UnR X (unaryOp .USub) (rU λi => .int (-i)):=unI λ_ _ _ _ _ q=>neg_int q
end
def scal:V->V->Bool
 | .non,.non=>true | .non,.int _=>true | .int _,.non=>true | .non,.bl _=>true | .bl _,.non=>true | .non,.str _=>true | .str _,.non=>true
 | .int _,.int _=>true | .bl _,.bl _=>true | .str _,.str _=>true | .byt _,.byt _=>true
 | .int _,.str _=>true | .str _,.int _=>true | .bl _,.str _=>true | .str _,.bl _=>true
 |_,_=>false
def rEq:R2:=λx y H Q=>scal x y=true/\Q (.bl (decide (x=y))) H
def rNe:R2:=λx y H Q=>scal x y=true/\Q (.bl (!decide (x=y))) H
theorem Zee{i j:Int}:decide (V.int i=V.int j)=(i == j):=by
 rw [Bool.eq_iff_iff];simp
theorem Zgs{i j:Bool}:decide (V.bl i=V.bl j)=(i == j):=by
 rw [Bool.eq_iff_iff];simp
theorem Zef{i j:Str}:decide (V.str i=V.str j)=(i == j):=by
 rw [Bool.eq_iff_iff];simp
theorem Zeg{i j:Array UInt8}:decide (V.byt i=V.byt j)=(i.toList == j.toList):=by
 rw [Bool.eq_iff_iff];cases i;cases j;simp
section
variable{X:Cx}{a b c:Expr}{ta tb tc:TE}{pos:Pos}
theorem Z9{pins:List (Addr×Obj)}{σ:St}{H:Hp}{s:Shared}{Q:VK}{k k':Bool}(I:Inv X pins σ H s)(q:Q (.bl k) H)(e:k=k'):EP X pins σ Q (.bool k') s:=by
 subst e;exact⟨.bl k,H,I,rfl,q⟩
theorem Zkx:OpR X (compareOp .Eq) rEq:=by
 intro pins s σ H x y v u Q I rx ry h;obtain⟨hs,q⟩:=h;cases x with
 |non=>
  cases rx;cases y with
  |non=>cases ry;exact PySem.EqNone.eq_none_none (Z9 I q (by simp))
  |bl j=>cases ry;exact PySem.EqNone.eq_none_bool (Z9 I q (by simp))
  |int j=>obtain⟨t',rfl⟩:=ry;exact PySem.EqNone.eq_none_int (Z9 I q (by simp))
  |str j=>obtain⟨t',rfl⟩:=ry;exact PySem.EqNone.eq_none_str (Z9 I q (by simp))
  |_=>exact absurd (show false=true from hs) Bool.false_ne_true
 |bl i=>
  cases rx;cases y with
  |non=>cases ry;exact PySem.EqNone.eq_bool_none (Z9 I q (by simp))
  |bl j=>cases ry;exact eq_bool (Z9 I q Zgs)
  |str j=>obtain⟨t',rfl⟩:=ry;exact PySem.EqMixed.eq_bool_str (Z9 I q (by simp))
  |_=>exact absurd (show false=true from hs) Bool.false_ne_true
 |int i=>
  obtain⟨t,rfl⟩:=rx;cases y with
  |non=>cases ry;exact PySem.EqNone.eq_int_none (Z9 I q (by simp))
  |int j=>obtain⟨t',rfl⟩:=ry;exact eq_int (Z9 I q Zee)
  |str j=>obtain⟨t',rfl⟩:=ry;exact PySem.EqMixed.eq_int_str (Z9 I q (by simp))
  |_=>exact absurd (show false=true from hs) Bool.false_ne_true
 |str i=>
  obtain⟨t,rfl⟩:=rx;cases y with
  |non=>cases ry;exact PySem.EqNone.eq_str_none (Z9 I q (by simp))
  |bl j=>cases ry;exact PySem.EqMixed.eq_str_bool (Z9 I q (by simp))
  |int j=>obtain⟨t',rfl⟩:=ry;exact PySem.EqMixed.eq_str_int (Z9 I q (by simp))
  |str j=>obtain⟨t',rfl⟩:=ry;exact eq_str (Z9 I q Zef)
  |_=>exact absurd (show false=true from hs) Bool.false_ne_true
 |byt i=>
  obtain⟨t,rfl⟩:=rx;cases y with
  |byt j=>obtain⟨t',rfl⟩:=ry;exact PySem.W.eq_bytes (Z9 I q Zeg)
  |_=>exact absurd (show false=true from hs) Bool.false_ne_true
 |_=>cases y<;>exact absurd (show false=true from hs) Bool.false_ne_true
theorem Zky:OpR X (compareOp .NotEq) rNe:=by
 intro pins s σ H x y v u Q I rx ry h;obtain⟨hs,q⟩:=h;cases x with
 |non=>
  cases rx;cases y with
  |non=>cases ry;exact PySem.EqNone.ne_none_none (Z9 I q (by simp))
  |bl j=>cases ry;exact PySem.EqNone.ne_none_bool (Z9 I q (by simp))
  |int j=>obtain⟨t',rfl⟩:=ry;exact PySem.EqNone.ne_none_int (Z9 I q (by simp))
  |str j=>obtain⟨t',rfl⟩:=ry;exact PySem.EqNone.ne_none_str (Z9 I q (by simp))
  |_=>exact absurd (show false=true from hs) Bool.false_ne_true
 |bl i=>
  cases rx;cases y with
  |non=>cases ry;exact PySem.EqNone.ne_bool_none (Z9 I q (by simp))
  |bl j=>cases ry;exact ne_bool (Z9 I q (congrArg not Zgs))
  |str j=>obtain⟨t',rfl⟩:=ry;exact PySem.EqMixed.ne_bool_str (Z9 I q (by simp))
  |_=>exact absurd (show false=true from hs) Bool.false_ne_true
 |int i=>
  obtain⟨t,rfl⟩:=rx;cases y with
  |non=>cases ry;exact PySem.EqNone.ne_int_none (Z9 I q (by simp))
  |int j=>obtain⟨t',rfl⟩:=ry;exact ne_int (Z9 I q (congrArg not Zee))
  |str j=>obtain⟨t',rfl⟩:=ry;exact PySem.EqMixed.ne_int_str (Z9 I q (by simp))
  |_=>exact absurd (show false=true from hs) Bool.false_ne_true
 |str i=>
  obtain⟨t,rfl⟩:=rx;cases y with
  |non=>cases ry;exact PySem.EqNone.ne_str_none (Z9 I q (by simp))
  |bl j=>cases ry;exact PySem.EqMixed.ne_str_bool (Z9 I q (by simp))
  |int j=>obtain⟨t',rfl⟩:=ry;exact PySem.EqMixed.ne_str_int (Z9 I q (by simp))
  |str j=>obtain⟨t',rfl⟩:=ry;exact ne_str (Z9 I q (congrArg not Zef))
  |_=>exact absurd (show false=true from hs) Bool.false_ne_true
 |byt i=>
  obtain⟨t,rfl⟩:=rx;cases y with
  |byt j=>obtain⟨t',rfl⟩:=ry;exact PySem.W.ne_bytes (Z9 I q (congrArg not Zeg))
  |_=>exact absurd (show false=true from hs) Bool.false_ne_true
 |_=>cases y<;>exact absurd (show false=true from hs) Bool.false_ne_true
theorem US:OpR X (compareOp .Lt) (rI0 λi j => .bl (decide (i<j))):=Zkg λ_ _ _ _ _ _ _ q=>lt_int q
theorem Jo:OpR X (compareOp .Gt) (rI0 λi j => .bl (decide (j<i))):=Zkg λ_ _ _ _ _ _ _ q=>gt_int q
theorem Zit:OpR X (compareOp .GtE) (rI0 λi j => .bl (decide (j<=i))):=Zkg λ_ _ _ _ _ _ _ q=>ge_int q
theorem ZeV:OpR X (compareOp .In) (λx y H Q=>∃i j,x = .str i/\y = .str j/\Q (.bl (!(Builtin.Str.occurrences j i 0 j.length 1).isEmpty)) H):=by
 intro pins s σ H x y v u Q I rx ry h;obtain⟨i,j,rfl,rfl,q⟩:=h;obtain⟨t,rfl⟩:=rx;obtain⟨t',rfl⟩:=ry;exact in_str (Z9 I q rfl)
theorem ZbT:OpR X (compareOp .NotIn) (λx y H Q=>∃i j,x = .str i/\y = .str j/\Q (.bl (!(!(Builtin.Str.occurrences j i 0 j.length 1).isEmpty))) H):=by
 intro pins s σ H x y v u Q I rx ry h;obtain⟨i,j,rfl,rfl,q⟩:=h;obtain⟨t,rfl⟩:=rx;obtain⟨t',rfl⟩:=ry;exact notIn_str (Z9 I q rfl)
theorem OpR.or{f:Value->Value->Sem Value}{r r':R2}(h:OpR X f r)(h':OpR X f r'):OpR X f (λx y H Q=>r x y H Q\/r' x y H Q):=by
 intro pins s σ H x y v u Q I rx ry q;rcases q with q|q
 · exact h pins s σ H x y v u Q I rx ry q
 · exact h' pins s σ H x y v u Q I rx ry q
theorem ZU(b:Expr){op:CmpOp}(h:op ≠ .In:=by decide)(h2:op ≠ .NotIn:=by decide):behindInMarks op b=false:=by
 have e1:(op == CmpOp.In)=false:=by cases op<;>first|rfl|exact absurd rfl h
 have e2:(op == CmpOp.NotIn)=false:=by cases op<;>first|rfl|exact absurd rfl h2
 cases b<;>simp [behindInMarks,e1,e2]
theorem QL{op:CmpOp}{r:R2}(ho:OpR X (compareOp op) r)(ha:PE X a ta)(hb:PE X b tb)(hm:behindInMarks op b=false):PE X (.Compare a [op] [b] pos) (tOp r ta tb):=by
 intro pins s σ H Q I h;exact wpAny_Compare1 (Zkf ha hb I h λv u s2 x y H2 I2 rx ry q=>ho pins s2 σ H2 x y v u Q I2 rx ry q) hm
def Ziu(t:TE):TT:=λσ H Q=>t σ H λx H'=>∃k,x = .bl k/\Q k H'
theorem ZV{op:CmpOp}{r:R2}(ho:OpR X (compareOp op) r)(ha:PE X a ta)(hb:PE X b tb)(hm:behindInMarks op b=false):PT X (.Compare a [op] [b] pos) (Ziu (tOp r ta tb)):=by
 intro pins s σ H Q I h
 refine wpAny_isTrue_Compare1 (thn (ha pins s σ H _ I h) λv s1 ⟨x,H1,I1,r1,q1⟩=>thn (hb pins s1 σ H1 _ I1 q1) λu s2 ⟨y,H2,I2,r2,q2⟩=>
  thn (ho pins s2 σ H2 x y v u _ I2 r1 r2 q2) λc s3 ⟨z,H3,I3,r3,k,e,q3⟩ => ?_) hm
 subst e;cases r3;exact wpAny_truthy_bool ⟨H3,I3,q3⟩
theorem Qa:(sizeLine:Nat)<2 ^ 63:=by rw [sizeLine_eq];decide
theorem Zdn:OpR X (binaryOp .Add) (λx y H Q=>∃i j,x = .str i/\y = .str j/\i.length+j.length<=sizeLine/\Q (.str (i++j)) H):=by
 intro pins s σ H x y v u Q I rx ry h;obtain⟨i,j,rfl,rfl,hz,q⟩:=h;obtain⟨t,rfl⟩:=rx;obtain⟨t',rfl⟩:=ry;exact add_str (λt' tk=>⟨.str (i++j),H,I.tok _,⟨_,rfl⟩,q⟩) hz
theorem Y2{x:V}{us:List Value}(r:Vals [x] us):∃u,us=[u]/\RelV x u:=by
 cases r with
 |cons r1 r2=>cases r2;exact⟨_,rfl,r1⟩
theorem Ziv{x y:V}{us:List Value}(r:Vals [x,y] us):∃u w',us=[u,w']/\RelV x u/\RelV y w':=by
 cases r with
 |cons r1 r2=>
  cases r2 with
  |cons r3 r4=>cases r4;exact⟨_,_,rfl,r1,r3⟩
end
end L2
namespace L2
open PySem PySem.Spec PyProof.Rows
structure ObjM(h:Heap)(x dx C:Addr)(mA:Str->Option Value):Prop where
 obj:h.get? x=some (instObj C dx)
 ns:h.Ns1 dx mA
 ne:dx≠x
theorem ZeW{h:Heap}{dx:Addr}{mA:Str->Option Value}(n:h.Ns1 dx mA):∃od,h.get? dx=some od/\∀name,PySem.W.lookIn name od=some (mA name):=by
 obtain⟨o,es,ep,ho,hd,hk,_,hm⟩:=n;refine⟨o,ho,λname => ?_⟩;have e:=hm name;unfold nsFind findBy at e;rw [<-Array.find?_toList]at e;unfold PySem.W.lookIn;rw [hd];dsimp only
 split
 · rename_i y q
   rw [q]at e;exact congrArg some e
 · rename_i q
   rw [q]at e
   have a:es.toList.any (·.refKey)=false:=by
    rw [List.any_eq_false];intro y hy;obtain⟨z,t,hkey⟩:=hk y (Array.mem_toList_iff.mp hy);simp [DictEntry.refKey,hkey]
   have a':¬es.toList.any (·.refKey)=true:=by rw [a];exact Bool.false_ne_true
   rw [if_neg a'];exact congrArg some e
theorem ObjM.look{h:Heap}{x dx C:Addr}{mA:Str->Option Value}(I:ObjM h x dx C mA):∃od,PySem.W.InstAt h x (instObj C dx) C (some od)/\∀name,PySem.W.lookIn name od=some (mA name):=
 let⟨od,ho,hl⟩:=ZeW I.ns
 ⟨od,⟨I.obj,rfl,rfl,ho⟩,hl⟩
section
variable{prog:Program}{w:World}{A:Around}{E:Value->Shared->Prop}{s:Shared}{K:PySem.W.Frag}{x dx C f:Addr}{mA:Str->Option Value}{name:Str}{v:Value}
theorem Zhj {expr:Bool} {Q:Value->Shared->Prop} (X:K.In s.heap) (I:ObjM s.heap x dx C mA) (hg:PySem.W.plainGet K C name=true) (hh:PySem.W.hasDictIn K C=true)
 (ha:PySem.W.findIn K (.ref C) name=some none) (hv:mA name=some v) (hv':PySem.W.handedIn v=true) (h:Q v { s with toks:=s.toks+1 }) :
 wpAny (model prog w) A (getAttr (.ref x) name expr) Q E s:=by
 obtain⟨od,J,hl⟩:=I.look;exact PySem.W.get_value X J (PySem.W.plainGet_of hg).1 (PySem.W.findObj_own hh ha rfl (by rw [hl,hv])) hv' h
theorem ZfF {pl:Sem Bool} {Q:Value×List Value->Shared->Prop} (X:K.In s.heap) (I:ObjM s.heap x dx C mA) (hg:PySem.W.plainGet K C name=true)
 (hf:PySem.W.findIn K (.ref C) name=some (some (.ref f))) (ht:isFn K (.ref f)=true) (hv:mA name=none) (h:Q (.ref f,[.ref x]) s) :
 wpAny (model prog w) A (getMethod (.ref x) name pl) Q E s:=by
 obtain⟨od,J,hl⟩:=I.look;exact PySem.W.method_fn X J (PySem.W.plainGet_of hg).1 (PySem.W.plainGet_of hg).2 hf (beq_iff_eq.mp ht) (by show(PySem.W.lookIn name od).map (·.isSome)=some false;rw [hl,hv];rfl) h
theorem Zhk {ns:List Str} {Q:Unit->Shared->Prop} (X:K.In s.heap) (I:ObjM s.heap x dx C mA)
 (hs:PySem.W.findIn K (.ref C) "__setattr__" = some (some (.builtin "object.__setattr__"))) (hp:PySem.W.plainOver K C=true) (ht:PySem.W.takerIn K C name=some none) (hh:PySem.W.hasDictIn K C=true)
 (hw:PySem.Within mA ns) (hsz:ns.length<=sizeLine)
 (h:∀h',ObjM h' x dx C (λy=>if y=name then some v else mA y)->Heap.SameBut dx s.heap h'->Q () { s with heap:=h',toks:=s.toks+2 }) :
 wpAny (model prog w) A (setAttr (.ref x) name v) Q E s:=by
 obtain⟨od,J,hl⟩:=I.look;refine PySem.W.set_plain X J hs (PySem.W.osa_open (s:={ s with toks:=s.toks+1 }) (r:=none) X J hp ht λb => ?_);obtain⟨cd,hc,hd'⟩:=PySem.W.any_some hh;have hx:s.heap.get? x=some ⟨.ref C,some dx,.plain,#[]⟩:=I.obj;refine wpAny_bind (wpAny_pure (wpAny_bind (wpAny_bind (wpAny_loadPart hx (wpAny_bind (PySem.W.Looks.here (s:={ s with toks:=s.toks+1 }) (PySem.W.looks_clsIn X hc) ?_))))))
 rw [hd'];refine wpAny_pure (a:=some dx) (wpAny_bind (wpAny_pure (wpAny_bind ?_)));refine wpAny_nsSet1 (s:={ s with toks:=s.toks+1 }) I.ns λh' hn2 hs2 => ?_
 obtain⟨oD,esD,epD,hoD,hdD,hcD⟩:=hn2.count (PySem.Within.cons name v hw);refine wpAny_bind (wpAny_lookBehind hoD (by rw [hdD];exact pastItsLine_dict (Nat.le_trans hcD (by rw [List.length_cons];omega))) ?_);exact wpAny_pure (h _ ⟨(hs2.2 _ (Ne.symm I.ne)).trans I.obj,hn2,I.ne⟩ hs2)
theorem ZfG {R:Result->Shared->Prop} {vs:List Value} {kw:List (Str×Value)} (X:K.In s.heap) (hm:PySem.W.makesIn K C=true)
 (hi:PySem.W.findIn K (.ref C) "__init__" = some (some (.ref f))) (hf:PySem.W.typeIn K (.ref f)=some (.type "function"))
 (h:codeAny (model prog w) (A.under (.builtin "type.__call__" ⟨.ref C::vs,kw⟩)) (.call (.ref f) ⟨.ref (s.heap.objs.size+1)::vs,kw⟩) (PySem.W.InitBack (s.heap.objs.size+1) R)
   { s with heap:=(s.heap.push emptyDict).push (instObj C s.heap.objs.size) }) :
 codeAny (model prog w) A (.call (.ref C) ⟨vs,kw⟩) R s:=by
 obtain⟨hh,g,d,t,os⟩:=s;exact PySem.W.make_core (PySem.W.makes_of X hm) (PySem.W.looks_findIn X hi) (λself=>PySem.W.bind_fn X self hf) (.inl rfl) h
end
def YS(f:Str)(v:V):List (Str×V)->List (Str×V)
 | []=>[(f,v)]
 |(g,x)::r=>if g=f then(g,v)::r else(g,x)::YS f v r
theorem ZaO(f g:Str)(v:V):∀fs:List (Str×V),(YS f v fs).lookup g=if g=f then some v else fs.lookup g
 | []=>by
  show List.lookup g [(f,v)]=_
  by_cases h:g=f
  · have hb:(g == f)=true:=beq_iff_eq.mpr h
    simp only [List.lookup,hb,if_pos h]
  · have hb:(g == f)=false:=beq_eq_false_iff_ne.mpr h
    simp only [List.lookup,hb,if_neg h]
 |(k,x)::r=>by
  have ih:=ZaO f g v r;rw [show YS f v ((k,x)::r)=(if k=f then(k,v)::r else(k,x)::YS f v r)from rfl]
  by_cases hk:k=f
  · rw [if_pos hk]
    by_cases h:g=k
    · have hb:(g == k)=true:=beq_iff_eq.mpr h
      simp only [List.lookup,hb,if_pos (h.trans hk)]
    · have hb:(g == k)=false:=beq_eq_false_iff_ne.mpr h
      simp only [List.lookup,hb,if_neg (λe:g=f=>h (e.trans hk.symm))]
  · rw [if_neg hk]
    by_cases h:g=k
    · have hb:(g == k)=true:=beq_iff_eq.mpr h
      simp only [List.lookup,hb,if_neg (λe:g=f=>hk (h.symm.trans e))]
    · have hb:(g == k)=false:=beq_eq_false_iff_ne.mpr h
      simp only [List.lookup,hb];exact ih
theorem ZaA(f:Str)(v:V):∀fs:List (Str×V),f∈(YS f v fs).map (·.1)/\∀g,g∈fs.map (·.1)->g∈(YS f v fs).map (·.1)
 | []=>⟨by simp [YS],λg h=>by simp at h⟩
 |(k,x)::r=>by
  obtain⟨i1,i2⟩:=ZaA f v r;rw [show YS f v ((k,x)::r)=(if k=f then(k,v)::r else(k,x)::YS f v r)from rfl]
  by_cases hk:k=f
  · rw [if_pos hk]
    subst hk;exact⟨by simp,λg h=>by simpa using h⟩
  · rw [if_neg hk]
    refine⟨?_,λg h => ?_⟩
    · rw [List.map_cons]
      exact List.mem_cons_of_mem _ i1
    · rw [List.map_cons]at h ⊢
      rcases List.mem_cons.mp h with e|e
      · exact List.mem_cons.mpr (.inl e)
      · exact List.mem_cons_of_mem _ (i2 g e)
theorem ZaP(f:Str)(v:V):∀fs:List (Str×V),(YS f v fs).length<=fs.length+1
 | []=>by simp [YS]
 |(k,x)::r=>by
  have ih:=ZaP f v r;rw [show YS f v ((k,x)::r)=(if k=f then(k,v)::r else(k,x)::YS f v r)from rfl]
  by_cases hk:k=f
  · rw [if_pos hk,List.length_cons,List.length_cons];omega
  · rw [if_neg hk,List.length_cons,List.length_cons];omega
theorem RelO.some_of{v:V}{o:Option Value}(r:RelO (some v) o):∃u,o=some u/\RelV v u:=by
 cases o with
 |none=>exact(show False from r).elim
 |some u=>exact⟨u,rfl,r⟩
theorem RelO.none_of{o:Option Value}(r:RelO none o):o=none:=by
 cases o with
 |none=>rfl
 |some u=>exact(show False from r).elim
theorem ZeX{v:V}{u:Value}(r:RelV v u):PySem.W.handedIn u=true:=by
 cases v with
 |non=>cases(show u=Value.none from r);rfl
 |bl b=>cases(show u=Value.bool b from r);rfl
 |int i=>obtain⟨t,e⟩:=(show ∃t,u=Value.int i t from r);cases e;rfl
 |str x=>obtain⟨t,e⟩:=(show ∃t,u=Value.str x t from r);cases e;rfl
 |byt b=>obtain⟨t,e⟩:=(show ∃t,u=Value.bytes b t from r);cases e;rfl
 |flt b=>obtain⟨t,e⟩:=(show ∃t,u=Value.float b t from r);cases e;rfl
 |ref a=>cases(show u=Value.ref a from r);rfl
 |ty n=>cases(show u=Value.type n from r);rfl
section
variable{P:Program}{w:World}{H H':Hp}{h h':Heap}{a C dx:Addr}{fs fs':List (Str×V)}
theorem Jp(hok:HOk P w H h)(e:H a=some (.ins C dx fs)):∃mA,ObjM h a dx C mA/\(∀f,RelO (fs.lookup f) (mA f))/\PySem.Within mA (fs.map (·.1))/\fs.length<=1000/\H dx=some (.own a):=by
 obtain⟨d,z,ne,ob,mA,n,r,q⟩:=(show ObjOk P w H h a (.ins C dx fs)from hok a _ e)
 exact⟨mA,⟨ob,n,ne⟩,r,q,z,d⟩
end
structure Cls(K:PySem.W.Frag)(C:Addr):Prop where
 pg:PySem.W.plainGet K C Str.empty=true
 hd:PySem.W.hasDictIn K C=true
 po:PySem.W.plainOver K C=true
 sa:PySem.W.findIn K (.ref C) "__setattr__" = some (some (.builtin "object.__setattr__"))
theorem Cls.get{K:PySem.W.Frag}{C:Addr}(c:Cls K C)(f:Str):PySem.W.plainGet K C f=true:=c.pg
def NoAttr(K:PySem.W.Frag)(C:Addr)(f:Str):Prop:=PySem.W.findIn K (.ref C) f=some none
theorem NoAttr.taker{K:PySem.W.Frag}{C:Addr}{f:Str}(n:NoAttr K C f):PySem.W.takerIn K C f=some none:=by
 unfold PySem.W.takerIn;rw [show PySem.W.findIn K (.ref C) f=some none from n];rfl
structure Con(K:PySem.W.Frag)(C:Addr)(f:Str)(v:V)(u:Value):Prop where
 at_:PySem.W.findIn K (.ref C) f=some (some u)
 rel:RelV v u
 get:PySem.W.specialIn K u "__get__" = some none
 cp:PySem.W.copiedNames.contains f=false
structure Meth(K:PySem.W.Frag)(C:Addr)(m:Str)(f:Addr):Prop where
 at_:PySem.W.findIn K (.ref C) m=some (some (.ref f))
 fn:isFn K (.ref f)=true
 kp:keepIn K (.ref f)=true
section
variable{X:Cx}{pins:List (Addr×Obj)}{σ:St}{H:Hp}{s:Shared}{a C dx:Addr}{fs:List (Str×V)}{f:Str}{v:V}{A:Around}{E:Value->Shared->Prop}
theorem Zdo {b:Bool} {Q:Value->Shared->Prop} (I:Inv X pins σ H s) (e:H a=some (.ins C dx fs)) (c:Cls X.K C) (n:NoAttr X.K C f) (l:fs.lookup f=some v)
 (h:∀u s',Inv X pins σ H s'->RelV v u->Q u s'):wpAny (model X.prog X.w) A (getAttr (.ref a) f b) Q E s:=by
 obtain⟨mA,O,r,_,_,_⟩:=Jp I.hok e;obtain⟨u,hu,ru⟩:=RelO.some_of (v:=v) (o:=mA f) (by rw [<-l];exact r f);exact Zhj I.kIn O (c.get f) c.hd n hu (ZeX ru) (h u _ (I.tok _) ru)
theorem Zdp {m:Str} {g:Addr} {pl:Sem Bool} {Q:Value×List Value->Shared->Prop} (I:Inv X pins σ H s) (e:H a=some (.ins C dx fs)) (c:Cls X.K C) (k:Meth X.K C m g) (l:fs.lookup m=none)
 (h:Q (.ref g,[.ref a]) s):wpAny (model X.prog X.w) A (getMethod (.ref a) m pl) Q E s:=by
 obtain⟨mA,O,r,_,_,_⟩:=Jp I.hok e;have hn:mA m=none:=RelO.none_of (by rw [<-l];exact r m);exact ZfF I.kIn O (c.get m) k.at_ k.fn hn h
theorem Zdq {y:V} {u:Value} {Q:Unit->Shared->Prop} (I:Inv X pins σ H s) (e:H a=some (.ins C dx fs)) (c:Cls X.K C) (n:NoAttr X.K C f) (hl:fs.length<1000) (ry:RelV y u)
 (h:∀s',Inv X pins σ (upd H a (.ins C dx (YS f y fs))) s'->Q () s'):wpAny (model X.prog X.w) A (setAttr (.ref a) f u) Q E s:=by
 obtain⟨mA,O,r,wi,_,ho⟩:=Jp I.hok e;have hz:(fs.map (·.1)).length<=sizeLine:=by rw [List.length_map,sizeLine_eq];omega
 refine Zhk I.kIn O c.sa c.po n.taker c.hd wi hz λh' O' sb=>h _ ?_
 have hd:∃o,h'.get? dx=some o:=let⟨o,_,_,e',_⟩:=O'.ns;⟨o,e'⟩
 refine I.write (x:=a) (e:=dx) (by rw [e];exact True.intro) (.inr ho) (λb q hb z=>(sb.2 b hb).trans z) hd ?_;refine⟨by rw [Zz O.ne];exact ho,?_,O.ne,O'.obj,_,O'.ns,λg => ?_,λg hg => ?_⟩
 · have:=ZaP f y fs;omega
 · show RelO ((YS f y fs).lookup g) (if g=f then some u else mA g)
   rw [ZaO]
   by_cases q:g=f
   · rw [if_pos q,if_pos q];exact ry
   · rw [if_neg q,if_neg q];exact r g
 · by_cases q:g=f
   · rw [q];exact(ZaA f y fs).1
   · refine(ZaA f y fs).2 g (wi g λz=>hg ?_)
     show(if g=f then some u else mA g)=none;rw [if_neg q];exact z
theorem Inv.made(I:Inv X pins σ H s):Inv X pins σ (upd (upd H s.heap.objs.size (.own (s.heap.objs.size+1))) (s.heap.objs.size+1) (.ins C s.heap.objs.size []))
 { s with heap:=(s.heap.push emptyDict).push (instObj C s.heap.objs.size) }:=by
 have e1:(s.heap.push emptyDict).get? s.heap.objs.size=some emptyDict:=Heap.get?_push_size s.heap rfl
 have e2:((s.heap.push emptyDict).push (instObj C s.heap.objs.size)).get? (s.heap.objs.size+1)=some (instObj C s.heap.objs.size):=by
  have:=Heap.get?_push_size (s.heap.push emptyDict) (o:=instObj C s.heap.objs.size) rfl
  rwa [Heap.size_push]at this
 have e3:(s.heap.push emptyDict).Ns s.heap.objs.size (λ_=>none):=⟨emptyDict,#[],_,e1,rfl,(λe he=>absurd he (by simp)),λ_=>rfl⟩
 have I1:=I.laid (a:=s.heap.objs.size) (o:=.own (s.heap.objs.size+1)) (h':=s.heap.push emptyDict) (t':=s.toks) (λb u q=>Heap.get?_push_of_some _ q) (Nat.le_refl _) ⟨_,e1⟩;refine I1.laid (a:=s.heap.objs.size+1) (o:=.ins C s.heap.objs.size []) (t':=s.toks) (λb u q=>Heap.get?_push_of_some _ q) (Nat.le_of_eq (Heap.size_push _ _)) ?_;have ne:s.heap.objs.size≠s.heap.objs.size+1:=Nat.ne_of_lt (Nat.lt_succ_self _)
 refine⟨by rw [Zz ne,ZO],Nat.zero_le _,ne,e2,λ_=>none,(Heap.Ns1.of_empty e3).at λo q=>Heap.get?_push_of_some _ q,λ_=>True.intro,λy hy=>absurd rfl hy⟩
theorem Zhl {prog:Program} {w:World} {env:Env} {e:Expr} {f:Str} {pos:Pos} {s:Shared} {Q:Value->Shared->Prop} (hb:attributeBase e f env (eval e env)=eval e env)
 (h:wpAny (model prog w) A (eval e env) (λo s₁=>wpAny (model prog w) A (getAttr o f true) Q E s₁) E s):wpAny (model prog w) A (eval (.Attribute e f pos) env) Q E s:=
 Attribute_any_ h (by rw [arm_eval_Attribute,hb])
end
def Zkh(K:PySem.W.Frag)(ta:TE)(f:Str):TE:=λσ H Q=>ta σ H λx H1=>∃a C dx fs v,x = .ref a/\H1 a=some (.ins C dx fs)/\Cls K C/\NoAttr K C f/\fs.lookup f=some v/\Q v H1
def ZlR(K:PySem.W.Frag)(ta tv:TE)(f:Str):TS:=λD σ H=>tv σ H λy H1=>ta σ H1 λx H2=>∃a C dx fs,x = .ref a/\H2 a=some (.ins C dx fs)/\Cls K C/\NoAttr K C f/\fs.length<1000 /\
 D.nx σ (upd H2 a (.ins C dx (YS f y fs)))
section
variable{X:Cx}{o e value:Expr}{f:Str}{pos pos' tpos:Pos}{ta tv:TE}
theorem Zjg(he:PE X e ta)(hb:attributeBase e f X.env (eval e X.env)=eval e X.env):PE X (.Attribute e f pos) (Zkh X.K ta f):=by
 intro pins s σ H Q I h;refine Zhl hb (thn (he pins s σ H _ I h) λu s1 ⟨x,H1,I1,rx,a,C,dx,fs,v,ex,ea,c,n,l,q⟩ => ?_);subst ex;obtain rfl:u=Value.ref a:=rx;exact Zdo I1 ea c n l λu' s2 I2 ru=>⟨v,H1,I2,ru,q⟩
theorem ZdV(ha:PE X o ta)(hv:PE X value tv)(hs:swapsWith value (some (.Attribute o f pos')) pos.line X.env=pure false):PS X (.Assign [.Attribute o f pos'] value pos) (ZlR X.K ta tv f):=by
 intro pins s σ H D I h;refine plainObj_wpAny_Assign_Attribute (thn (hv pins s σ H _ I h) λu s1 ⟨y,H1,I1,ry,q⟩=>thn (ha pins s1 σ H1 _ I1 q) λov s2 ⟨x,H2,I2,rx,a,C,dx,fs,ex,ea,c,n,l,q2⟩ => ?_) hs;subst ex;obtain rfl:ov=Value.ref a:=rx;exact Zdq I2 ea c n l ry λs3 I3=>⟨σ,_,I3,q2⟩
end
section
variable{X:Cx}{pins:List (Addr×Obj)}{σ:St}{H:Hp}{s:Shared}{A:Around}{E:Value->Shared->Prop}{Q:Value->Shared->Prop}{c:Value}{b:Bool}
inductive TyOf(K:PySem.W.Frag)(H:Hp):V->Value->Prop where
 |non:TyOf K H .non (.type "NoneType")
 |bl (x:Bool):TyOf K H (.bl x) (.type "bool")
 |int (i:Int):TyOf K H (.int i) (.type "int")
 |str (x:Str):TyOf K H (.str x) (.type "str")
 |flt (x:UInt64):TyOf K H (.flt x) (.type "float")
 |lst {a:Addr} {xs:List V} (e:H a=some (.lst xs)):TyOf K H (.ref a) (.type "list")
 |frz {a:Addr} {o:Obj} {xs:List V} (e:H a=some (.frz o (.lst xs))):TyOf K H (.ref a) (.type "list")
 |tup {a:Addr} {xs:List V} (e:H a=some (.tup xs)):TyOf K H (.ref a) (.type "tuple")
 |dK {a:Addr} {kvs:List (Key×V)} (e:H a=some (.dK kvs)):TyOf K H (.ref a) (.type "dict")
 |dT {a:Addr} {kvs:List (List Key×V)} (e:H a=some (.dT kvs)):TyOf K H (.ref a) (.type "dict")
 |ins {a C dx:Addr} {fs:List (Str×V)} (e:H a=some (.ins C dx fs)) (cl:Cls K C) (ha:PySem.W.findIn K (.ref C) "__class__" = some (some (.builtin "object.__class__")))
  (hn:PySem.W.specialIn K (.builtin "object.__class__") "__get__" = some (some (.builtin "getset_descriptor.__get__"))) (htk:PySem.W.takesIn K (.builtin "object.__class__")=some true)
  (hm:PySem.W.mroIn K C (.type "object")=some true):TyOf K H (.ref a) (.ref C)
theorem ZeY{x:V}{u t:Value}(I:Inv X pins σ H s)(rx:RelV x u)(ty:TyOf X.K H x t)(e:kitOne X.K t c=some b)(h:∀tk,Q (.bool b) { s with toks:=tk }) :
 wpAny (model X.prog X.w) A (call (.builtin "isinstance") [u,c]) Q E s:=by
 cases ty with
 |non=>cases(show u=Value.none from rx);exact PySem.W.kia_one PySem.W.kitx_none I.kIn True.intro e (λz=>nomatch z) h
 |bl y=>cases(show u=Value.bool y from rx);exact PySem.W.kia_one PySem.W.kitx_bool I.kIn True.intro e (λz=>nomatch z) h
 |int i=>obtain⟨t,q⟩:=(show ∃t,u=Value.int i t from rx);cases q;exact PySem.W.kia_one PySem.W.kitx_int I.kIn True.intro e (λz=>nomatch z) h
 |str y=>obtain⟨t,q⟩:=(show ∃t,u=Value.str y t from rx);cases q;exact PySem.W.kia_one PySem.W.kitx_str I.kIn True.intro e (λz=>nomatch z) h
 |flt y=>obtain⟨t,q⟩:=(show ∃t,u=Value.float y t from rx);cases q;exact PySem.W.kia_one PySem.W.kitx_float I.kIn True.intro e (λz=>nomatch z) h
 | @lst a xs ea=>
  cases(show u=Value.ref a from rx);obtain⟨_,_,n,_,h1⟩:=(show ObjOk X.prog X.w H s.heap a (.lst xs)from I.hok a _ ea)
  exact PySem.W.kia_one PySem.W.kitx_list I.kIn ⟨_,h1,rfl⟩ e (λz=>nomatch z) h
 | @frz a ob xs ea=>
  cases(show u=Value.ref a from rx);obtain⟨_,_,_,n,_,h1⟩:=(show ObjOk X.prog X.w H s.heap a (.frz ob (.lst xs))from I.hok a _ ea)
  exact PySem.W.kia_one PySem.W.kitx_list I.kIn ⟨_,h1,rfl⟩ e (λz=>nomatch z) h
 | @tup a xs ea=>
  cases(show u=Value.ref a from rx);obtain⟨_,_,_,p⟩:=(show ObjOk X.prog X.w H s.heap a (.tup xs)from I.hok a _ ea)
  obtain⟨o,h1,h2,_⟩:=p;exact PySem.W.kia_one PySem.W.kitx_tuple I.kIn ⟨o,h1,h2⟩ e (λz=>nomatch z) h
 | @dK a kvs ea=>
  cases(show u=Value.ref a from rx);obtain⟨_,_,vs,_,p⟩:=(show ObjOk X.prog X.w H s.heap a (.dK kvs)from I.hok a _ ea)
  obtain⟨o,es,ep,h1,h2,_⟩:=p;exact PySem.W.kia_one PySem.W.kitx_dict I.kIn ⟨o,h1,h2.1⟩ e (λz=>nomatch z) h
 | @dT a kvs ea=>
  cases(show u=Value.ref a from rx);obtain⟨_,_,xs,_,o,es,ep,h1,h2,_⟩:=(show ObjOk X.prog X.w H s.heap a (.dT kvs)from I.hok a _ ea)
  exact PySem.W.kia_one PySem.W.kitx_dict I.kIn ⟨o,h1,h2.1⟩ e (λz=>nomatch z) h
 | @ins a C dx fs ea cl ha hn htk hm=>
  cases(show u=Value.ref a from rx);obtain⟨mA,O,_⟩:=Jp I.hok ea;obtain⟨od,J,_⟩:=O.look;exact PySem.W.kia_one (PySem.W.kitx_own (cl.get _) cl.hd ha hn htk hm) I.kIn J e (λz=>nomatch z) h
end
end L2
namespace L2
open PySem PySem.Spec PyProof.Rows
structure Room(k:Nat)(A:Around):Prop where
 hd:A.handled=none
 dp:A.depth+3*k+5<recursionLimit
 un:A.units+16*k+200<cLine
theorem Room.mono{j k:Nat}{A:Around}(r:Room k A)(h:j<=k):Room j A:=⟨r.hd,by have:=r.dp;omega,by have:=r.un;omega⟩
theorem Room.deeper{k:Nat}{A:Around}(r:Room (k+1) A)(env:Env):Room k (A.deeper env):=
 ⟨r.hd,by have:=r.dp;show A.depth+1+3*k+5<_;omega,by have:=r.un;show A.units+3+16*k+200<_;omega⟩
theorem Zdr{A:Around}{C:Addr}{us:List Value}{kw:List (Str×Value)}:(A.under (.builtin "type.__call__" ⟨.ref C::us,kw⟩)).depth=A.depth+1:=by
 first|rfl|simp [Around.under,Code.weight,Code.isCreation,Code.isGuard,Code.isCaller,Code.frames,Code.isFrame,guardIds]
theorem Zds{A:Around}{C:Addr}{us:List Value}{kw:List (Str×Value)}:(A.under (.builtin "type.__call__" ⟨.ref C::us,kw⟩)).units=A.units+1:=by
 first|rfl|simp [Around.under,Code.cUnits,Code.frames,Code.isFrame]
theorem Room.make{k:Nat}{A:Around}(r:Room (k+1) A)(C:Addr)(us:List Value)(kw:List (Str×Value)):Room k (A.under (.builtin "type.__call__" ⟨.ref C::us,kw⟩)):=
 ⟨r.hd,by have:=r.dp;rw [Zdr];omega,by have:=r.un;rw [Zds];omega⟩
theorem Room.depth{k:Nat}{A:Around}(r:Room k A):A.depth<recursionLimit:=by have:=r.dp;omega
theorem Room.units{k:Nat}{A:Around}(r:Room k A):A.units+64<cLine:=by have:=r.un;omega
def tNil:TA:=λ_ H Q=>Q [] H
def Xp(ta:TE)(tr:TA):TA:=λσ H Q=>ta σ H λx H1=>tr σ H1 λxs H2=>Q (x::xs) H2
section
variable{X:Cx}{e:Expr}{es:List Expr}{te:TE}{t:TA}{pos:Pos}
theorem Zk:PA X [] tNil:=λ_ _ _ _ H Q I h=>Calls.spliced_nil ⟨[],H,I,.nil,h⟩
theorem Ze(ha:PE X e te)(hr:PA X es t)(hs:starEach (e::es) X.env=(false,eval e X.env)::starEach es X.env:=by rfl):PA X (e::es) (Xp te t):=by
 intro pos pins s σ H Q I h;rw [hs];show wpAny _ _ (spliced ((false,eval e X.env)::backTo pos (starEach es X.env))) _ _ s;refine Calls.spliced_cons (thn (ha pins s σ H _ I h) λu s1 ⟨x,H1,I1,r1,q1⟩ => ?_);exact thn (hr pos pins s1 σ H1 _ I1 q1) λus s2 ⟨xs,H2,I2,r2,q2⟩=>⟨x::xs,H2,I2,.cons r1 r2,q2⟩
def ZlS(t:TA):TE:=λσ H Q=>t σ H λxs H1=>xs.length<=sizeLine/\∀p,H1 p=none->Q (.ref p) (upd H1 p (.tup xs))
def Zki(t:TA):TE:=λσ H Q=>t σ H λxs H1=>xs.length<=sizeLine/\∀p,H1 p=none->Q (.ref p) (upd H1 p (.lst xs))
theorem X5{x1}(h:PA X es t):PE X (.Tuple es x1 pos) (ZlS t):=by
 intro pins s σ H Q I hq;refine wpAny_Tuple_spliced (thn (h pos pins s σ H _ I hq) λus s1 ⟨xs,H1,I1,r,z,q⟩=>⟨by rw [<-r.length];exact z,?_⟩);have hf:H1 s1.heap.objs.size=none:=I1.hok.fresh (Nat.le_refl _);refine⟨.ref s1.heap.objs.size,upd H1 s1.heap.objs.size (.tup xs),I1.laid (t':=s1.toks) (λb u e=>Heap.get?_push_of_some _ e) (Nat.le_refl _) ?_,rfl,q _ hf⟩;exact⟨z,us,r,⟨_,Heap.get?_push_size _ rfl,rfl,⟨_,rfl⟩,rfl⟩⟩
theorem Xq(h:PA X es t):PE X (.List es pos) (Zki t):=by
 intro pins s σ H Q I hq;refine wpAny_List_spliced (thn (h pos pins s σ H _ I hq) λus s1 ⟨xs,H1,I1,r,z,q⟩=>⟨by rw [<-r.length];exact z,?_⟩);have hf:H1 s1.heap.objs.size=none:=I1.hok.fresh (Nat.le_refl _);refine⟨.ref s1.heap.objs.size,upd H1 s1.heap.objs.size (.lst xs),I1.laid (t':=s1.toks) (λb u e=>Heap.get?_push_of_some _ e) (Nat.le_refl _) ?_,rfl,q _ hf⟩;exact⟨z,us,0,r,Heap.get?_push_size _ rfl⟩
end
abbrev Sp:=List V->Hp->VK->XK->Prop
abbrev CXT:=List Env->Hp->Shared->XK->Value->Shared->Prop
structure Env0(P:Program)(w:World)(K:PySem.W.Frag)(mg:Str->Option Value)(base:Heap)(A:Around)(outer:List Env)(s:Shared)(H:Hp):Prop where
 frames:A.frames=some outer
 mod:Mod K mg base
 bs:∀b o,base.get? b=some o->s.heap.get? b=some o/\H b=none
 bsz:base.objs.size<=s.heap.objs.size
 funs:s.heap.FunFrames base outer
 frf:∀b∈frs outer,H b=none
 hok:HOk P w H s.heap
 bare:AllBare s.gens
def CE(outer:List Env)(P:Program)(w:World)(H:Hp)(s:Shared)(Q:VK)(u:Value)(s':Shared):Prop:=
 ∃v H',s'.os=s.os/\AllBare s'.gens/\Un (frs outer) [] H H' s.heap s'.heap/\HOk P w H' s'.heap/\RelV v u/\Q v H'
def CR(CX:CXT)(outer:List Env)(P:Program)(w:World)(H:Hp)(s:Shared)(Q:VK)(E:XK)(r:Result)(s':Shared):Prop:=
 match r with
 | .ok (.ret u)=>CE outer P w H s Q u s'
 | .ok _=>False
 | .error e=>CX outer H s E e s'
structure FnOk(P:Program)(w:World)(K:PySem.W.Frag)(mg:Str->Option Value)(base:Heap)(CX:CXT)(k:Nat)(f:Addr)(fd:FuncData)(ps:List Str)(sp:Sp):Prop where
 len:∀vs H Q E,sp vs H Q E->vs.length=ps.length
 run:∀(A:Around)(outer:List Env)(s:Shared)(H:Hp)(args:Args)(us:List Value)(vs:List V)(Q:VK)(E:XK),Room k A->Env0 P w K mg base A outer s H->BindsTo s fd args (ps.zip us)->Vals vs us->sp vs H Q E ->
  codeAny (model P w) A (.call (.ref f) args) (CR CX outer P w H s Q E) s
theorem FnOk.mono{P:Program}{w:World}{K:PySem.W.Frag}{mg:Str->Option Value}{base:Heap}{CX:CXT}{j k:Nat}{f:Addr}{fd:FuncData}{ps:List Str}{sp:Sp}(F:FnOk P w K mg base CX j f fd ps sp)(h:j<=k) :
 FnOk P w K mg base CX k f fd ps sp:=⟨F.len,λA outer s H args us vs Q E hr=>F.run A outer s H args us vs Q E (hr.mono h)⟩
theorem FnOk.imp {P:Program} {w:World} {K:PySem.W.Frag} {mg:Str->Option Value} {base:Heap} {CX:CXT} {k:Nat} {f:Addr} {fd:FuncData} {ps:List Str} {sp sp':Sp} (F:FnOk P w K mg base CX k f fd ps sp)
 (h:∀vs H Q E,sp' vs H Q E->sp vs H Q E):FnOk P w K mg base CX k f fd ps sp':=
 ⟨λvs H Q E q=>F.len vs H Q E (h _ _ _ _ q),λA outer s H args us vs Q E hr he hb hv hs=>F.run A outer s H args us vs Q E hr he hb hv (h _ _ _ _ hs)⟩
theorem Env0.make{P:Program}{w:World}{K:PySem.W.Frag}{mg:Str->Option Value}{base:Heap}{A:Around}{outer:List Env}{s:Shared}{H:Hp}(e:Env0 P w K mg base A outer s H)(C:Addr)(us:List Value)(kw:List (Str×Value)) :
 Env0 P w K mg base (A.under (.builtin "type.__call__" ⟨.ref C::us,kw⟩)) outer s H:=⟨by first|exact e.frames|(simpa [Around.under,Code.envs,Code.isFrame,pushEnvs]using e.frames),e.mod,e.bs,e.bsz,e.funs,e.frf,e.hok,e.bare⟩
section
variable{X:Cx}{pins:List (Addr×Obj)}{σ:St}{H:Hp}{s s':Shared}
theorem Inv.env0(I:Inv X pins σ H s):Env0 X.prog X.w X.K X.mg X.base X.A X.stack s H:=
 ⟨I.ok.frames,I.ok.mod,I.bs,Nat.le_trans I.ok.bsz I.sz,I.stack,I.stkFree,I.hok,I.bare⟩
theorem Inv.after{Q:VK}{u:Value}(I:Inv X pins σ H s)(h:CE X.stack X.prog X.w H s Q u s'):EP X pins σ Q u s':=by
 obtain⟨v,H',os,bare,un,hok,r,q⟩:=h;obtain⟨hh,g,d,t,os'⟩:=s';obtain rfl:os'=s.os:=os;exact⟨v,H',I.call (h':=hh) (g':=g) (d':=d) (t':=t) (ch:=[]) un hok bare (λb z=>absurd z (by simp)),r,q⟩
end
def Ziw(sp:Sp)(dvs:List V)(E:XK)(t:TA):TE:=λσ H Q=>t σ H λvs H1=>sp (vs++dvs) H1 Q E
def Zix(C:Addr)(sp:Sp)(dvs:List V)(E:XK)(t:TA):TE:=λσ H Q=>t σ H λvs H1=>∀x dx,H1 x=none->H1 dx=none->dx≠x ->
 sp (.ref x::(vs++dvs)) (upd (upd H1 dx (.own x)) x (.ins C dx [])) (λv H2=>v = .non/\Q (.ref x) H2) E
def Binds(K:PySem.W.Frag)(fd:FuncData)(ps:List Str)(ds:List Value):Prop:=
 ∀(s:Shared)(us:List Value),K.In s.heap->(us++ds).length=ps.length->BindsTo s fd ⟨us,[]⟩ (ps.zip (us++ds))
theorem Binds.all{K:PySem.W.Frag}{fd:FuncData}{ps:List Str}(h:∀us:List Value,us.length=ps.length->bindArgs fd ⟨us,[]⟩=pure (ps.zip us)):Binds K fd ps []:=λs us _ hl=>by
 rw [List.append_nil]at hl ⊢;exact .of_eq (h us hl)
def QM(CX:CXT)(X:Cx)(E:XK):Prop:=∀(pins:List (Addr×Obj))(σ:St)(H:Hp)(s:Shared)(e:Value)(s':Shared),Inv X pins σ H s->CX X.stack H s E e s'->X.xe e s'
section
variable{X:Cx}{CX:CXT}{k:Nat}{f C:Addr}{fd:FuncData}{ps:List Str}{sp:Sp}{dvs:List V}{ds:List Value}{E:XK}{x m:Str}{p pos apos:Pos}{e o:Expr}{es:List Expr}{ta:TE}{t:TA}
theorem Zgt {pins:List (Addr×Obj)} {σ:St} {H:Hp} {s:Shared} {Q:VK} {us:List Value} {vs:List V} (F:FnOk X.prog X.w X.K X.mg X.base CX k f fd ps sp) (hr:Room k X.A) (hb:Binds X.K fd ps ds) (hd:Vals dvs ds) (hx:QM CX X E)
 (I:Inv X pins σ H s) (r:Vals vs us) (h:sp (vs++dvs) H Q E):wpAny (model X.prog X.w) X.A (call (.ref f) us) (EP X pins σ Q) X.xe s:=by
 have r2:Vals (vs++dvs) (us++ds):=r.append hd;have hl:(us++ds).length=ps.length:=by rw [<-r2.length];exact F.len _ _ _ _ h
 refine wpAny_call (codeAny_mono (F.run X.A X.stack s H ⟨us,[]⟩ (us++ds) (vs++dvs) Q E hr I.env0 (hb s us I.kIn hl) r2 h) λr s' hq => ?_);cases r with
 |error e=>exact hx pins σ H s e s' I hq
 |ok fl=>
  cases fl with
  |ret u=>exact I.after hq
  |next=>exact False.elim hq
  |brk=>exact False.elim hq
  |cont=>exact False.elim hq
theorem Yb (F:FnOk X.prog X.w X.K X.mg X.base CX k f fd ps sp) (hr:Room k X.A) (hg:Gl X x) (hm:X.mg x=some (.ref f)) (hk:keepIn X.K (.ref f)=true) (hb:Binds X.K fd ps ds) (hd:Vals dvs ds) (hx:QM CX X E)
 (ha:PA X (e::es) t) (hdb:(x == ("__debug__" : Str))=false:=by decide) (he:starEach (e::es) X.env=(false,eval e X.env)::starEach es X.env:=by rfl) (hpl:(backTo pos (starEach es X.env)).any (·.1)=false:=by rfl) :
 PE X (.Call (.Name x p) (e::es) [] pos) (Ziw sp dvs E t):=by
 intro pins s σ H Q I h;refine wpAny_Call_Name_kw (Zec I hg hm ?_ hdb);refine PySem.W.callWith_K (h₀:=X.base) I.ok.mod.kin hk (thn (ha pos pins s σ H _ I h) λus s1 ⟨vs,H1,I1,r,q⟩=>⟨I1.kIn,?_⟩) he hpl;exact Zgt F hr hb hd hx I1 r q
structure Mk(K:PySem.W.Frag)(C f:Addr):Prop where
 makes:PySem.W.makesIn K C=true
 init:PySem.W.findIn K (.ref C) "__init__" = some (some (.ref f))
 fn:isFn K (.ref f)=true
 kp:keepIn K (.ref C)=true
theorem ZfH {pins:List (Addr×Obj)} {σ:St} {H:Hp} {s:Shared} {Q:VK} {us:List Value} {vs:List V} (M:Mk X.K C f) (F:FnOk X.prog X.w X.K X.mg X.base CX k f fd ps sp) (hr:Room (k+1) X.A) (hb:Binds X.K fd ps ds) (hd:Vals dvs ds)
 (hx:QM CX X E) (I:Inv X pins σ H s) (r:Vals vs us)
 (h:∀x dx,H x=none->H dx=none->dx≠x->sp (.ref x::(vs++dvs)) (upd (upd H dx (.own x)) x (.ins C dx [])) (λv H2=>v = .non/\Q (.ref x) H2) E) :
 wpAny (model X.prog X.w) X.A (call (.ref C) us) (EP X pins σ Q) X.xe s:=by
 have hq:=h (s.heap.objs.size+1) s.heap.objs.size (I.hok.fresh (Nat.le_succ _)) (I.hok.fresh (Nat.le_refl _)) (Nat.ne_of_lt (Nat.lt_succ_self _));have I2:=Inv.made (C:=C) I;have r2:Vals (V.ref (s.heap.objs.size+1)::(vs++dvs)) (Value.ref (s.heap.objs.size+1)::(us++ds)) := .cons rfl (r.append hd)
 have hl:(Value.ref (s.heap.objs.size+1)::us++ds).length=ps.length:=by
  have e:=r2.length;rw [F.len _ _ _ _ hq]at e;exact e.symm
 refine wpAny_call (ZfG (f:=f) I.kIn M.makes M.init (beq_iff_eq.mp M.fn) (codeAny_mono (F.run _ X.stack _ _ ⟨Value.ref (s.heap.objs.size+1)::us,[]⟩ (Value.ref (s.heap.objs.size+1)::(us++ds)) _ _ E (hr.make C us [])
  (I2.env0.make C us []) (hb _ (Value.ref (s.heap.objs.size+1)::us) I2.kIn hl) r2 hq) λr s' hq' => ?_))
 cases r with
 |error e=>exact hx pins σ _ _ e s' I2 hq'
 |ok fl=>
  cases fl with
  |ret u=>
   obtain⟨v,H',I3,rv,ev,q3⟩:=I2.after hq';subst ev;exact⟨rv,⟨V.ref (s.heap.objs.size+1),H',I3,rfl,q3⟩⟩
  |next=>exact False.elim hq'
  |brk=>exact False.elim hq'
  |cont=>exact False.elim hq'
theorem Jq (M:Mk X.K C f) (F:FnOk X.prog X.w X.K X.mg X.base CX k f fd ps sp) (hr:Room (k+1) X.A) (hg:Gl X x) (hm:X.mg x=some (.ref C)) (hb:Binds X.K fd ps ds) (hd:Vals dvs ds) (hx:QM CX X E)
 (ha:PA X (e::es) t) (hdb:(x == ("__debug__" : Str))=false:=by decide) (he:starEach (e::es) X.env=(false,eval e X.env)::starEach es X.env:=by rfl) (hpl:(backTo pos (starEach es X.env)).any (·.1)=false:=by rfl) :
 PE X (.Call (.Name x p) (e::es) [] pos) (Zix C sp dvs E t):=by
 intro pins s σ H Q I h;refine wpAny_Call_Name_kw (Zec I hg hm ?_ hdb);refine PySem.W.callWith_K (h₀:=X.base) I.ok.mod.kin M.kp (thn (ha pos pins s σ H _ I h) λus s1 ⟨vs,H1,I1,r,q⟩=>⟨I1.kIn,?_⟩) he hpl;exact ZfH M F hr hb hd hx I1 r q
end
def PK(X:Cx)(kws:List Keyword)(t:TA):Prop:=
 ∀(pos:Pos)(pins:List (Addr×Obj))(s:Shared)(σ:St)(H:Hp)(Q:List V->Hp->Prop),Inv X pins σ H s->t σ H Q->wpAny (model X.prog X.w) X.A (evalAll ((backToKw pos (keywordEach kws X.env)).map (·.2))) (AP X pins σ Q) X.xe s
section
variable{X:Cx}{CX:CXT}{k:Nat}{f C:Addr}{fd:FuncData}{ps ks:List Str}{sp:Sp}{E:XK}{x m:Str}{p pos apos kpos:Pos}{e o:Expr}{es:List Expr}{kws:List Keyword}{te ta:TE}{t tk:TA}{nm:Option Str}
theorem Zjh:PK X [] tNil:=λ_ _ _ _ H Q I h=>wpAny_evalAll_nil ⟨[],H,I,.nil,h⟩
theorem Zhm(ha:PE X e te)(hr:PK X kws t):PK X (⟨nm,e,kpos⟩::kws) (Xp te t):=by
 intro pos pins s σ H Q I h;show wpAny _ _ (evalAll ((do let v <-eval e X.env;standAt pos;pure v)::(backToKw pos (keywordEach kws X.env)).map (·.2))) _ _ s;refine wpAny_evalAll_cons (wpAny_bind (thn (ha pins s σ H _ I h) λu s1 ⟨x,H1,I1,r1,q1⟩=>wpAny_bind (wpAny_standAt (wpAny_pure ?_))));exact thn (hr pos pins s1 σ H1 _ I1 q1) λus s2 ⟨xs,H2,I2,r2,q2⟩=>⟨x::xs,H2,I2,.cons r1 r2,q2⟩
structure KBinds(K:PySem.W.Frag)(fd:FuncData)(ps ks:List Str)(g:List Value->List Value->List Value)(gV:List V->List V->List V):Prop where
 to:∀(s:Shared)(us ws:List Value),K.In s.heap->(g us ws).length=ps.length->BindsTo s fd ⟨us,ks.zip ws⟩ (ps.zip (g us ws))
 rel:∀{vs:List V}{us:List Value}{zs:List V}{ws:List Value},Vals vs us->Vals zs ws->Vals (gV vs zs) (g us ws)
variable{g:List Value->List Value->List Value}{gV:List V->List V->List V}
end
structure FnScope(N P:List Str)(sc:Scope):Prop where
 kind:sc.kind = .function
 co:sc.isCoroutine=false
 gen:sc.isGenerator=false
 nd:N.Nodup
 pre:N.take P.length=P
 par:∀x∈P,sc.names.lookup x=some .local\/sc.names.lookup x=some .cell
 nofree:∀y∈sc.names,y.2 ≠ .free
theorem Zbt{kindOf:Str->Option NameKind}{x:Str}:∀{binds:List (Str×Value)}{m:Str->Option Value},(∀v,(x,v)∉binds)->bindL kindOf binds m x=m x
 | [],_,_=>rfl
 |(n,v)::r,m,h=>by
  unfold bindL;rw [Zbt λw hw=>h w (List.mem_cons_of_mem _ hw)]
  split
  · have:x≠n:=by rintro rfl;exact h v List.mem_cons_self
    simp [this]
  · rfl
theorem Zbu{kindOf:Str->Option NameKind}{x:Str}:∀{binds:List (Str×Value)}{m:Str->Option Value},(∀v,(x,v)∉binds)->bindC kindOf binds m x=m x
 | [],_,_=>rfl
 |(n,v)::r,m,h=>by
  unfold bindC;rw [Zbu λw hw=>h w (List.mem_cons_of_mem _ hw)]
  split
  · rfl
  · have:x≠n:=by rintro rfl;exact h v List.mem_cons_self
    simp [this]
theorem Zbv{kindOf:Str->Option NameKind}{x:Str}{v:Value}:∀{P:List Str}{vs:List Value}{i:Nat}{m:Str->Option Value},P.Nodup->P[i]? = some x->vs[i]? = some v->kindOf x=some .local ->
 bindL kindOf (P.zip vs) m x=some v
 | [],_,_,_,_,h,_,_=>by simp at h
 |_::_,[],_,_,_,_,h,_=>by simp at h
 |p::P,w::vs,0,m,nd,h1,h2,hk=>by
  simp at h1 h2;subst h1;subst h2;show bindL kindOf ((p,w)::P.zip vs) m p=_;unfold bindL;rw [Zbt λv hv=>(List.nodup_cons.mp nd).1 (List.of_mem_zip hv).1,if_pos hk];simp
 |p::P,w::vs,i+1,m,nd,h1,h2,hk=>by
  show bindL kindOf ((p,w)::P.zip vs) m x=_;unfold bindL;exact Zbv (i:=i) (List.nodup_cons.mp nd).2 (by simpa using h1) (by simpa using h2) hk
theorem Zbw{kindOf:Str->Option NameKind}{x:Str}{v:Value}:∀{P:List Str}{vs:List Value}{i:Nat}{m:Str->Option Value},P.Nodup->P[i]? = some x->vs[i]? = some v->kindOf x≠some .local ->
 bindC kindOf (P.zip vs) m x=some v
 | [],_,_,_,_,h,_,_=>by simp at h
 |_::_,[],_,_,_,_,h,_=>by simp at h
 |p::P,w::vs,0,m,nd,h1,h2,hk=>by
  simp at h1 h2;subst h1;subst h2;show bindC kindOf ((p,w)::P.zip vs) m p=_;unfold bindC;rw [Zbu λv hv=>(List.nodup_cons.mp nd).1 (List.of_mem_zip hv).1,if_neg hk];simp
 |p::P,w::vs,i+1,m,nd,h1,h2,hk=>by
  show bindC kindOf ((p,w)::P.zip vs) m x=_;unfold bindC;exact Zbw (i:=i) (List.nodup_cons.mp nd).2 (by simpa using h1) (by simpa using h2) hk
def start(N:List Str)(vs:List V):St:=vs.map some++List.replicate (N.length-vs.length) none
def X6(CX:CXT)(P:Program)(w:World)(K:PySem.W.Frag)(mg:Str->Option Value)(base:Heap)(N:List Str)(qual:Str)(scope:Scope)(f:Addr)(cd:Value)(A:Around)(outer:List Env)(s:Shared)(H:Hp)(E:XK):Cx where
 prog:=P
 w:=w
 K:=K
 mg:=mg
 base:=base
 A:=A.deeper (envOfC qual scope s.heap.objs.size f cd)
 N:=N
 s₀:=s
 H₀:=H
 env:=envOfC qual scope s.heap.objs.size f cd
 outer:=outer
 stack:=envOfC qual scope s.heap.objs.size f cd::outer
 ex:=[]
 calm:=true
 fn:=λ_=>true
 pn:=[]
 xe:=λe s'=>wpAny (model P w) (A.deeper (envOfC qual scope s.heap.objs.size f cd)) (leaving (envOfC qual scope s.heap.objs.size f cd) e) (λ_ s''=>CX outer H s E e s'') (λe' s''=>CX outer H s E e' s'') s'
theorem ZcM{sc:Scope}{n:Nat}{x:Str}(h:sc.names.lookup x=some .cell):∃c,(cellsFrom n sc.names []).lookup x=some c:=by
 have q:=PySem.W.cellsFrom_some sc.names n [] (.inl h);exact Option.isSome_iff_exists.mp q
theorem ZeZ {CX:CXT} {P:Program} {w:World} {K:PySem.W.Frag} {mg:Str->Option Value} {base:Heap} {N ps:List Str} {qual:Str} {scope:Scope} {f:Addr} {cd:Value} {A:Around} {outer:List Env} {s s1:Shared} {H:Hp} {E:XK} {us:List Value} {vs:List V}
 (S:FnScope N ps scope) (hd:A.handled=none) (e0:Env0 P w K mg base A outer s H) (hl:vs.length=ps.length) (r:Vals vs us)
 (x:InCallC s s.heap.objs.size (bindL (envOfC qual scope s.heap.objs.size f cd).kindOf (ps.zip us) λ_=>none) (cellsFrom (s.heap.objs.size+1) scope.names []) (bindC (envOfC qual scope s.heap.objs.size f cd).kindOf (ps.zip us) λ_=>none) s1) :
 Inv (X6 CX P w K mg base N qual scope f cd A outer s H E) [] (start N vs) H s1:=by
 have hpl:ps.length<=N.length:=by have:=congrArg List.length S.pre;rw [List.length_take]at this;omega
 obtain⟨h1,tk,rfl,hk⟩:=x.done;have noA:∀b:Addr,b∉(X6 CX P w K mg base N qual scope f cd A outer s H E).ex:=λb z=>absurd (show b∈([]:List Addr)from z) (by simp)
 refine⟨⟨e0.mod,S.kind,rfl,rfl,Nat.le_refl _,λy z c h1 h2 => ?_,λy hy => ?_,λy c _ h => ?_,λ_=>hd,Around.frames_deeper e0.frames,.inr ⟨rfl,rfl⟩,λb z=>absurd z (noA b),e0.bs,e0.bsz,λb _ _=>noA b,λb z=>absurd z (noA b),e0.funs,e0.frf⟩,
  rfl,e0.bare,Un.kept hk,⟨_,x.toInCall.ns,λi y v h1 h2 h3 => ?_⟩,λy c h=>⟨_,x.cell y c h⟩,e0.hok.fresh (Nat.le_refl _),λy c h => ?_,λp hp=>absurd (show p∈([]:List (Addr×Obj))from hp) (by simp),e0.hok.kept hk,?_⟩
 · exact name_of_addr x.apart (PySem.mem_of_lookup h1) (PySem.mem_of_lookup h2)
 · have hy:scope.names.lookup y=some .cell\/scope.names.lookup y=some .free:=hy
   rcases hy with hy|hy
   · exact ZcM hy
   · exact absurd rfl (S.nofree _ (PySem.mem_of_lookup hy))
 · exact Nat.le_of_lt (x.above y c (PySem.mem_of_lookup h))
 · have hi : i < vs.length := by
    unfold start at h2
    by_cases hi:i<vs.length
    · exact hi
    · rw [List.getElem?_append_right (by simpa using hi)]at h2
      rw [List.getElem?_replicate]at h2
      split at h2<;>cases h2
   have ha:vs[i]? = some v:=by
    unfold start at h2;rw [List.getElem?_append_left (by simpa using hi),List.getElem?_map]at h2;cases e:vs[i]? with
    |none=>rw [e]at h2;cases h2
    |some a=>rw [e]at h2;cases h2;rfl
   obtain⟨u,hu,rv⟩:=r.get ha
   have hp:ps[i]? = some y:=by
    rw [<-S.pre,List.getElem?_take_of_lt (by omega)];exact h1
   have ndP:ps.Nodup:=by rw [<-S.pre];exact S.nd.sublist (List.take_sublist _ _)
   refine⟨u,rv,?_⟩;rcases S.par y (List.mem_of_getElem? hp)with k|k
   · exact .inl ⟨k,Zbv ndP hp hu k⟩
   · obtain⟨c,e⟩:=ZcM (n:=s.heap.objs.size+1) k
     refine .inr ⟨.inl k,c,e,?_⟩;have q:=x.cell y c e;rw [Zbw ndP hp hu (by show scope.names.lookup y≠_;rw [k];decide)]at q;exact q
 · exact e0.hok.fresh (Nat.le_of_lt (x.above y c (PySem.mem_of_lookup h)))
 · unfold start
   show _=N.length;rw [List.length_append,List.length_map,List.length_replicate];omega
theorem Ziy {CX:CXT} {P:Program} {w:World} {K:PySem.W.Frag} {mg:Str->Option Value} {base:Heap} {k:Nat} {f:Addr} {name qual:Str} {params:Arguments} {body:List Stmt} {scope:Scope} {dV kV doc pm cdv ct oc:Value} {an od:Option Addr}
 {osl:Array (Option Value)} {N ps:List Str} {sp:Sp} (lk:K.lookup f=some ⟨oc,od,.func (fnOf name qual params body scope dV kV doc pm an cdv ct),osl⟩) (hcd:codeIn K cdv qual=true) (S:FnScope N ps scope)
 (len:∀vs H Q E,sp vs H Q E->vs.length=ps.length)
 (hbody:∀(A:Around)(outer:List Env)(s:Shared)(H:Hp)(vs:List V)(Q:VK)(E:XK),Room k (A.deeper (envOfC qual scope s.heap.objs.size f cdv))->sp vs H Q E ->
   ∃t,PSs (X6 CX P w K mg base N qual scope f cdv A outer s H E) body t/\t { nx:=λ_ H'=>Q .non H',rt:=Q } (start N vs) H) :
 FnOk P w K mg base CX (k+1) f (fnOf name qual params body scope dV kV doc pm an cdv ct) ps sp:=by
 refine⟨len,λA outer s H args us vs Q E hr e0 hb r hsp => ?_⟩;have hl:=len _ _ _ _ hsp;have KX:K.In s.heap:=e0.mod.kin.keeps λb o e=>(e0.bs b o e).1
 have lim:s.heap.NoLimit:=e0.mod.nolimit.keeps λb o e=>(e0.bs b o e).1
 have hkind:∀y∈ps.zip us,scope.names.lookup y.1=some .local\/(scope.names.lookup y.1=some .cell/\((cellsFrom (s.heap.objs.size+1) scope.names []).lookup y.1).isSome=true):=λ⟨n,v⟩ hy=>by
  rcases S.par n (List.of_mem_zip hy).1 with q|q
  · exact .inl q
  · exact .inr ⟨q,PySem.W.cellsFrom_some _ _ _ (.inl q)⟩
 refine codeAny_call_function hr.depth (KX _ _ lk) rfl S.co S.gen rfl (PySem.W.codeRec_of KX hcd) (hb _ _ _ _ ?_);refine wpAny_newFunctionEnv_cells S.kind hkind λenv he s1 x => ?_
 subst he;refine⟨lim.keeps x.toInCall.keep,codeAny_func ?_⟩;obtain⟨t,ht,hq⟩:=hbody A outer s H vs Q E (hr.deeper _) hsp;have I:Inv (X6 CX P w K mg base N qual scope f cdv A outer s H E) [] (start N vs) H s1:=ZeZ S hr.hd e0 hl r x;refine wpAny_mono (ht [] s1 (start N vs) H _ I hq) (λfl s' hs => ?_) λe s' hs=>hs
 have fin:∀{σ':St}{H':Hp}{v:V}{u:Value},Inv (X6 CX P w K mg base N qual scope f cdv A outer s H E) [] σ' H' s'->RelV v u->Q v H'->CE outer P w H s Q u s':=
  λ{σ' H' v u} J rv q=>⟨v,H',J.os,J.bare,J.base,J.hok,rv,q⟩
 cases fl with
 |ret u=>
  obtain⟨v,σ',H',J,rv,q⟩:=hs;exact fin J rv q
 |next=>
  obtain⟨σ',H',J,q⟩:=hs;exact fin (v:=V.non) (u:=Value.none) J rfl q
 |brk=>
  obtain⟨_,_,_,q⟩:=hs;exact False.elim q
 |cont=>
  obtain⟨_,_,_,q⟩:=hs;exact False.elim q
end L2
namespace L2
open PySem PySem.Spec PyProof.Rows
section
variable{X:Cx}{x:Str}{p pos:Pos}{e:Expr}{es:List Expr}{t:TA}{id T:String}{r:List V->Hp->VK->Prop}
def tCB(r:List V->Hp->VK->Prop)(t:TA):TE:=λσ H Q=>t σ H λvs H1=>r vs H1 Q
theorem ZT (hc:Ym X (.builtin id) r) (hg:Gl X x) (hm:X.mg x=none) (hv:bootBuiltins x=some (.builtin id)) (ha:PA X (e::es) t) (hn:x ≠ "__name__" := by decide) (hdb:(x == ("__debug__" : Str))=false:=by decide)
 (he:starEach (e::es) X.env=(false,eval e X.env)::starEach es X.env:=by rfl) (hpl:(backTo pos (starEach es X.env)).any (·.1)=false:=by rfl):PE X (.Call (.Name x p) (e::es) [] pos) (tCB r t):=by
 intro pins s σ H Q I h;refine wpAny_Call_Name_kw (UR I hg hm hv ?_ hn hdb);exact PyProof.Rows.callWith_builtin1 (thn (ha pos pins s σ H _ I h) λus s1 ⟨vs,H1,I1,r1,q1⟩=>hc pins s1 σ H1 vs us Q I1 r1 q1) he hpl
theorem YT (hc:Ym X (.type T) r) (hg:Gl X x) (hm:X.mg x=none) (hv:bootBuiltins x=some (.type T)) (ha:PA X (e::es) t) (hn:x ≠ "__name__" := by decide) (hdb:(x == ("__debug__" : Str))=false:=by decide)
 (he:starEach (e::es) X.env=(false,eval e X.env)::starEach es X.env:=by rfl) (hpl:(backTo pos (starEach es X.env)).any (·.1)=false:=by rfl):PE X (.Call (.Name x p) (e::es) [] pos) (tCB r t):=by
 intro pins s σ H Q I h;refine wpAny_Call_Name_kw (UR I hg hm hv ?_ hn hdb);exact PyProof.Rows.callWith_type1 (thn (ha pos pins s σ H _ I h) λus s1 ⟨vs,H1,I1,r1,q1⟩=>hc pins s1 σ H1 vs us Q I1 r1 q1) he hpl
end
end L2
namespace HT
open PySem PyProof.Rows
section
open PySem.SeqAt
open PySem.AutoSeq1 (wpAny_loadPart')
open PySem.MeetsSeq PySem.MeetsSeq2 PySem.MeetsSeq3
end
section
variable{prog:Program}{w:World}{A:Around}{E:Value->Shared->Prop}{s:Shared}
theorem cat_tup {t b:Addr} {vs ws:List Value} {Q:Value->Shared->Prop} (ht:IsTup s.heap t vs.toArray) (hb:IsTup s.heap b ws.toArray) (hv:vs≠[])
 (h1:ws=[]->Q (.ref t) s) (h2:ws≠[]->Q (.ref s.heap.objs.size) { s with heap:=s.heap.push { cls := .type "tuple",data := .seq (vs++ws).toArray } })
 (hsz:vs.length+ws.length<=sizeLine):wpAny (model prog w) A (binaryOp .Add (.ref t) (.ref b)) Q E s:=by
 obtain⟨⟨cls,dd,data,sl⟩,ho,hc,n,hd⟩:=id ht;obtain⟨⟨cls2,dd2,data2,sl2⟩,ho2,hc2,n2,hd2⟩:=id hb;simp only at hc hd hc2 hd2;subst hc hd hc2 hd2;have e:vs.toArray++ws.toArray=(vs++ws).toArray:=by simp
 by_cases hw:ws=[]
 · exact concat_meets ⟨_, ho, rfl⟩ ⟨_, ho2, rfl⟩ noFill_tuple_add seq_tuple_add PySem.F.slot_tuple_add PySem.F.entry_tuple_add (PySem.F.args_tuple_add_2 _ _)
    (tuple_addW1 t b vs.toArray ws.toArray n n2 dd dd2 sl sl2 (by simpa using hv) (by simp [hw])) ⟨ho,ho2,h1 hw⟩
 · refine concat_meets ⟨_, ho, rfl⟩ ⟨_, ho2, rfl⟩ noFill_tuple_add seq_tuple_add PySem.F.slot_tuple_add PySem.F.entry_tuple_add (PySem.F.args_tuple_add_2 _ _)
    (tuple_addW2 t b vs.toArray ws.toArray n n2 dd dd2 sl sl2 (by simpa using hv) (by simpa using hw) (by rw [List.size_toArray,List.size_toArray];exact hsz)) ⟨ho,ho2,?_⟩
   rw [e];exact h2 hw
def sIx(n d:Nat):Option Int->Nat
 |none=>d
 |some v=>if v<0 then(v+(n:Int)).toNat else min v.toNat n
theorem Zji(n d:Nat)(hd:d<=n)(o:Option Int):sIx n d o<=n:=by
 cases o with
 |none=>exact hd
 |some v=>
  show(if v<0 then(v+(n:Int)).toNat else min v.toNat n)<=n
  by_cases hv:v<0
  · rw [if_pos hv];omega
  · rw [if_neg hv];exact Nat.min_le_right _ _
theorem Zeh(v:Int)(n d:Nat):(if v<0 then max (v+(n:Int)) 0 else min v (n:Int))=((sIx n d (some v):Nat):Int):=by
 show(if v<0 then max (v+(n:Int)) 0 else min v (n:Int))=(((if v<0 then(v+(n:Int)).toNat else min v.toNat n):Nat):Int)
 by_cases hv:v<0
 · simp only [if_pos hv];omega
 · simp only [if_neg hv];omega
theorem Zdt(lo hi:Option Int)(n:Nat):Builtin.Slice.sliceAdjust lo hi 1 (n:Int)=(((sIx n 0 lo:Nat):Int),((sIx n n hi:Nat):Int)):=by
 have h1:¬((1:Int)<0):=by omega
 unfold Builtin.Slice.sliceAdjust;simp only [h1,if_false];refine Prod.ext ?_ ?_
 · cases lo with
   |none=>rfl
   |some v=>exact Zeh v n 0
 · cases hi with
   |none=>rfl
   |some v=>exact Zeh v n n
theorem Zdu(i j:Nat):Builtin.Slice.slicePlaces (i:Int) (j:Int) 1=j-i:=by
 unfold Builtin.Slice.slicePlaces;have h1:(1:Int)>0:=by omega
 simp only [h1,if_true,Int.ediv_one]
 split<;>omega
theorem ZaY{v:Value}{o:Option Int}{Q:Option Int->Shared->Prop}(p:IsPart v o)(h:Q o s):wpAny (model prog w) A (Builtin.Slice.slicePartIndex v) Q E s:=by
 cases p with
 |none=>exact slicePart_none h
 |int i t=>exact slicePart_int h
theorem Zau {sl:Addr} {vl vu:Value} {lo hi:Option Int} {n:Nat} {Q:Int×Int×Nat->Shared->Prop} (hs:s.heap.IsSliceOf sl vl vu .none) (pl:IsPart vl lo) (pu:IsPart vu hi)
 (h:Q (((sIx n 0 lo:Nat):Int),1,sIx n n hi-sIx n 0 lo) s):wpAny (model prog w) A (Builtin.Slice.sliceApplied (.ref sl) (pure (n:Int))) Q E s:=by
 obtain⟨os,hos,hcs,hds⟩:=id hs;unfold Builtin.Slice.sliceApplied Builtin.Slice.sliceFields;refine wpAny_bind (wpAny_bind (wpAny_field hos hds (x:=vl) rfl (wpAny_bind (wpAny_field hos hds (x:=vu) rfl (wpAny_bind (wpAny_field hos hds (x:=.none) rfl (wpAny_pure ?_)))))));refine wpAny_bind (slicePart_none ?_);show wpAny _ _ (if((1:Int) == 0)=true then _ else _) _ _ s;rw [if_neg (by decide)]
 refine wpAny_bind (ZaY pl (wpAny_bind (ZaY pu (wpAny_bind (wpAny_pure ?_)))));show wpAny _ _ (match Builtin.Slice.sliceAdjust lo hi 1 (n:Int)with|(lo,hi)=>pure (lo,(1:Int),Builtin.Slice.slicePlaces lo hi 1)) _ _ s;rw [Zdt lo hi n];show wpAny _ _ (pure (((sIx n 0 lo:Nat):Int),(1:Int),Builtin.Slice.slicePlaces ((sIx n 0 lo:Nat):Int) ((sIx n n hi:Nat):Int) 1)) _ _ s;rw [Zdu]
 exact wpAny_pure h
theorem ZfI(xs:Array Value)(i k:Nat):((List.range k).filterMap λ(m:Nat)=>xs[((i:Int)+(m:Int)*1).toNat]?).toArray=((xs.toList.drop i).take k).toArray:=by
 have e:(λ(m:Nat)=>xs[((i:Int)+(m:Int)*1).toNat]?)=λm=>xs[i+m]? := by
  funext m
  have:((i:Int)+(m:Int)*1).toNat=i+m:=by omega
  rw [this]
 rw [e];have:=pick_run xs i k;rw [List.filterMap_map]at this;have e2:((λx=>xs[x]?)∘λx=>i+x)=λm=>xs[i+m]? := rfl
 rw [e2]at this;rw [this]
theorem getItem_tuple_cut {t sl:Addr} {items:Array Value} {vl vu:Value} {lo hi:Option Int} {Q:Value->Shared->Prop} (ht:IsTup s.heap t items) (hs:s.heap.IsSliceOf sl vl vu .none) (pl:IsPart vl lo) (pu:IsPart vu hi)
 (hw:¬(sIx items.size 0 lo=0/\sIx items.size items.size hi=items.size))
 (h:Q (.ref s.heap.objs.size) { s with heap:=s.heap.push { cls := .type "tuple",data := .seq ((items.toList.drop (sIx items.size 0 lo)).take (sIx items.size items.size hi-sIx items.size 0 lo)).toArray } })
 (hsz:items.size<=sizeLine):wpAny (model prog w) A (getItem (.ref t) (.ref sl)) Q E s:=by
 have htake:sizeOk (.seq ((items.toList.drop (sIx items.size 0 lo)).take (sIx items.size items.size hi-sIx items.size 0 lo)).toArray):=by
  show((items.toList.drop (sIx items.size 0 lo)).take (sIx items.size items.size hi-sIx items.size 0 lo)).toArray.size<=sizeLine;rw [List.size_toArray,List.length_take,List.length_drop,Array.length_toList];omega
 have hj:sIx items.size items.size hi<=items.size:=Zji _ _ (Nat.le_refl _) hi;obtain⟨os,hos,hcs,hds⟩:=id hs;have hTs:s.TypeIs (.ref sl) "slice" := ⟨os,hos,hcs⟩
 unfold getItem
 try with_reducible refine wpAny_holding ?_
 first|refine wpAny_bind (wpAny_pure ?_)|skip
 refine wpAny_bind (wpAny_sequenceKey ht.typeIs (by decide) ?_)
 refine wpAny_bind (wpAny_callSpecial?_slot (name:=Str.ofString "__getitem__") ht.typeIs PyProof.Rows.slot_tuple_getitem
  (wpAny_call_entry PyProof.Rows.slot_tuple_getitem ht.typeIs entry_tuple_getitem ?_ (args_tuple_getitem _ _)))
 show wpAny _ _ (Builtin.Tuple.tupleItemsOf (.ref t) >>= _) _ _ s;refine wpAny_bind (tupleItemsOf_ ht ?_);refine wpAny_bind (wpAny_typeOf hTs ?_);rw [if_pos (by decide)];refine wpAny_bind (Zau hs pl pu ?_)
 have hno:¬((((sIx items.size 0 lo:Nat):Int) == 0&&(1:Int) == 1&&(sIx items.size items.size hi-sIx items.size 0 lo) == items.size)=true):=by
  intro q;rw [Bool.and_eq_true,Bool.and_eq_true]at q;have q1:((sIx items.size 0 lo:Nat):Int)=0:=eq_of_beq q.1.1;have q2:sIx items.size items.size hi-sIx items.size 0 lo=items.size:=eq_of_beq q.2;exact hw ⟨by omega,by omega⟩
 show wpAny _ _ (if(((sIx items.size 0 lo:Nat):Int) == 0&&(1:Int) == 1&&(sIx items.size items.size hi-sIx items.size 0 lo) == items.size)=true then _ else _) _ _ s;rw [if_neg hno,ZfI]
 first
  |exact wpAny_bind (m:=Builtin.Tuple.tupleExact _) (wpAny_newObj_type (wpAny_pure ⟨_,rfl,wpAny_pure h⟩) htake)
  |exact wpAny_bind (m:=Builtin.Tuple.tupleExact _) (wpAny_newObj_type (wpAny_bind (wpAny_pure (wpAny_pure ⟨_,rfl,wpAny_pure h⟩))) htake)
  |exact wpAny_bind (wpAny_bind (m:=Builtin.Tuple.tupleExact _) (wpAny_newObj_type (wpAny_pure (wpAny_pure ⟨_,rfl,wpAny_pure h⟩)) htake))
  |exact wpAny_bind (wpAny_bind (m:=Builtin.Tuple.tupleExact _) (wpAny_newObj_type (wpAny_pure ⟨_,rfl,wpAny_pure h⟩) htake))
end
end HT
namespace L2
open PySem PySem.Spec PyProof.Rows
abbrev TO:=St->Hp->(Option Int->Hp->Prop)->Prop
def PO(X:Cx)(e:Option Expr)(t:TO):Prop:=
 ∀(pins:List (Addr×Obj))(s:Shared)(σ:St)(H:Hp)(Q:Option Int->Hp->Prop),Inv X pins σ H s->t σ H Q ->
  wpAny (model X.prog X.w) X.A (evalPart e X.env) (λu s'=>∃o H',Inv X pins σ H' s'/\IsPart u o/\Q o H') X.xe s
def tNoPart:TO:=λ_ H Q=>Q none H
def Ziz(t:TE):TO:=λσ H Q=>t σ H λx H1=>∃i,x = .int i/\Q (some i) H1
section
variable{X:Cx}{e:Expr}{te:TE}{lo hi:Option Expr}{tl th:TO}{pos p2:Pos}
theorem Zhn:PO X none tNoPart:=by
 intro pins s σ H Q I h;rw [evalPart_none];exact wpAny_pure ⟨none,H,I,.none,h⟩
theorem Zb4(h:PE X e te):PO X (some e) (Ziz te):=by
 intro pins s σ H Q I hw;rw [evalPart_some];refine thn (h pins s σ H _ I hw) λu s1 ⟨x,H1,I1,r1,q1⟩ => ?_
 obtain⟨i,rfl,q⟩:=q1;obtain⟨t,rfl⟩:=r1;exact⟨some i,H1,I1,.int i t,q⟩
def SlR(X:Cx)(r:V->Option Int->Option Int->Hp->VK->Prop):Prop:=
 ∀(pins:List (Addr×Obj))(s:Shared)(σ:St)(H:Hp)(x:V)(v vl vu:Value)(lo hi:Option Int)(sl:Addr)(Q:VK),Inv X pins σ H s->RelV x v->s.heap.IsSliceOf sl vl vu .none->IsPart vl lo->IsPart vu hi->r x lo hi H Q ->
  ∃T id,typeLookup (.type T) "__getitem__" = pure (some (.builtin id))/\s.TypeIs v T/\wpAny (model X.prog X.w) X.A (getItem v (.ref sl)) (EP X pins σ Q) X.xe s
theorem SlR.or{r r':V->Option Int->Option Int->Hp->VK->Prop}(h:SlR X r)(h':SlR X r'):SlR X (λx lo hi H Q=>r x lo hi H Q\/r' x lo hi H Q):=by
 intro pins s σ H x v vl vu lo hi sl Q I rx hs pl pu q;rcases q with q|q
 · exact h pins s σ H x v vl vu lo hi sl Q I rx hs pl pu q
 · exact h' pins s σ H x v vl vu lo hi sl Q I rx hs pl pu q
def tSl(r:V->Option Int->Option Int->Hp->VK->Prop)(te:TE)(tl th:TO):TE:=λσ H Q=>te σ H λx H1=>tl σ H1 λl H2=>th σ H2 λu H3=>r x l u H3 Q
theorem ZcN{r:V->Option Int->Option Int->Hp->VK->Prop}(hr:SlR X r)(he:PE X e te)(hl:PO X lo tl)(hu:PO X hi th):PE X (.Subscript e (.Slice lo hi none p2) pos) (tSl r te tl th):=by
 intro pins s σ H Q I h;refine Subscript_ (thn (he pins s σ H _ I h) λv s1 ⟨x,H1,I1,r1,q1⟩ => ?_);refine wpAny_Slice (thn (hl pins s1 σ H1 _ I1 q1) λvl s2 ⟨l,H2,I2,pl,q2⟩=>thn (hu pins s2 σ H2 _ I2 q2) λvu s3 ⟨u,H3,I3,pu,q3⟩ => ?_);rw [evalPart_none];refine wpAny_pure ?_;have I4:Inv X pins σ H3 { s3 with heap:=s3.heap.push { cls := .type "slice",data := .fields #[vl,vu,.none] } }:=I3.kept (t':=s3.toks) λb ob q=>Heap.get?_push_of_some _ q
 obtain⟨T,id,hT,ht,hg⟩:=hr pins { s3 with heap:=s3.heap.push { cls := .type "slice",data := .fields #[vl,vu,.none] } } σ H3 x v vl vu l u s3.heap.objs.size Q I4 r1 (Heap.IsSliceOf.new ..) pl pu q3;show wpAny (model X.prog X.w) X.A (subscriptTail e (.Slice lo hi none p2) v (.ref s3.heap.objs.size)) (EP X pins σ Q) X.xe { s3 with heap:=s3.heap.push { cls := .type "slice",data := .fields #[vl,vu,.none] } }
 exact tail_any (ops:=[.ref s3.heap.objs.size,v]) ht hT hg (by with_unfolding_all rfl)
def Uw(xs:List V)(lo hi:Option Int):List V:=(xs.drop (HT.sIx xs.length 0 lo)).take (HT.sIx xs.length xs.length hi-HT.sIx xs.length 0 lo)
theorem ZaQ(xs:List V)(lo hi:Option Int):(Uw xs lo hi).length<=xs.length:=by
 unfold Uw;rw [List.length_take,List.length_drop];omega
def ZlT(K:PySem.W.Frag):V->Option Int->Option Int->Hp->VK->Prop:=λx lo hi H Q=>∃a xs,x = .ref a/\SqT K H a xs /\
 ¬(HT.sIx xs.length 0 lo=0/\HT.sIx xs.length xs.length hi=xs.length)/\∀p,H p=none->Q (.ref p) (upd H p (.tup (Uw xs lo hi)))
theorem Zjj:SlR X (ZlT X.K):=by
 intro pins s σ H x v vl vu lo hi sl Q I rx hs pl pu h;obtain⟨a,xs,rfl,hx,hw,q⟩:=h;cases rx;obtain⟨its,r,ht,hz⟩:=I.tuple hx;have hlen:its.toArray.size=xs.length:=by rw [List.size_toArray];exact r.length.symm
 refine⟨"tuple",_,PyProof.Rows.slot_tuple_getitem.lookup,ht.typeIs,?_⟩;refine HT.getItem_tuple_cut ht hs pl pu (by rw [hlen];exact hw) ?_ (by rw [hlen];exact hz);rw [hlen];refine⟨.ref s.heap.objs.size,_,I.laid (t':=s.toks) (o:=.tup (Uw xs lo hi)) (λb ob q=>Heap.get?_push_of_some _ q) (Nat.le_refl _) ?_,rfl,q _ (I.hok.fresh (Nat.le_refl _))⟩;exact⟨Nat.le_trans (ZaQ xs lo hi) hz,_,(r.drop (HT.sIx xs.length 0 lo)).take (HT.sIx xs.length xs.length hi-HT.sIx xs.length 0 lo),TupN.new _ _⟩
def ZgY(K:PySem.W.Frag):R2:=λx y H Q=>∃a b xs ys,x = .ref a/\y = .ref b/\SqT K H a xs/\SqT K H b ys/\xs≠[]/\xs.length+ys.length<=sizeLine /\
 (ys=[]->Q (.ref a) H)/\(ys≠[]->∀p,H p=none->Q (.ref p) (upd H p (.tup (xs++ys))))
theorem Vals.nil_iff{xs:List V}{us:List Value}(r:Vals xs us):us=[] ↔ xs=[]:=by
 cases r with
 |nil=>simp
 |cons _ _=>simp
theorem Zho:OpR X (binaryOp .Add) (ZgY X.K):=by
 intro pins s σ H x y v u Q I rx ry h;obtain⟨a,b,xs,ys,rfl,rfl,ha,hb,hx,hz,q1,q2⟩:=h;cases rx;cases ry;obtain⟨its,r1,p1,_⟩:=I.tuple ha;obtain⟨its2,r2,p2,_⟩:=I.tuple hb;refine HT.cat_tup p1 p2 (λz=>hx (r1.nil_iff.mp z)) (λz=>⟨.ref a,H,I,rfl,q1 (r2.nil_iff.mp z)⟩) (λz => ?_) (by rw [<-r1.length,<-r2.length];exact hz);refine⟨.ref s.heap.objs.size,_,I.laid (t':=s.toks) (o:=.tup (xs++ys)) (λb ob q=>Heap.get?_push_of_some _ q) (Nat.le_refl _) ?_,rfl,q2 (λw=>z (r2.nil_iff.mpr w)) _ (I.hok.fresh (Nat.le_refl _))⟩
 exact⟨by rw [List.length_append];exact hz,_,r1.append r2,TupN.new _ _⟩
end
end L2
namespace L2
open PySem PySem.Spec PyProof.Rows
def ixN(n:Nat)(i:Int):Option Nat:=if 0<=i then(if i<n then some i.toNat else none)else if -(n:Int)<=i then some (i+n).toNat else none
def atI{α:Type}(xs:List α)(i:Int):Option α:=(ixN xs.length i).bind λj=>xs[j]?
theorem Zei{n:Nat}{i:Int}{j:Nat}(h:ixN n i=some j):seqIndex? i n=some j/\j<n /\ -(n:Int)<=i/\i<n:=by
 unfold ixN at h
 by_cases h0:0<=i
 · rw [if_pos h0]at h
   by_cases h1:i<n
   · rw [if_pos h1]at h
     have e:i.toNat=j:=Option.some.inj h;exact⟨by rw [seqIndex_of h0 h1,e],by omega,by omega,h1⟩
   · rw [if_neg h1]at h;cases h
 · rw [if_neg h0]at h
   by_cases h1 : -(n:Int)<=i
   · rw [if_pos h1]at h
     have e:(i+n).toNat=j:=Option.some.inj h;exact⟨by rw [seqIndex_neg (by omega) h1,e],by omega,h1,by omega⟩
   · rw [if_neg h1]at h;cases h
theorem Zb5{α:Type}{xs:List α}{i:Int}{v:α}(h:atI xs i=some v):∃j,seqIndex? i xs.length=some j/\xs[j]? = some v/\j<xs.length /\ -(xs.length:Int)<=i/\i<xs.length:=by
 unfold atI at h;cases e:ixN xs.length i with
 |none=>rw [e]at h;cases h
 |some j=>
  rw [e]at h;obtain⟨h1,h2,h3,h4⟩:=Zei e;exact⟨j,h1,h,h2,h3,h4⟩
theorem Jr{α:Type}{xs:List α}{j:Nat}{v:α}(h:xs[j]? = some v):atI xs (j:Int)=some v:=by
 have hj:j<xs.length:=(List.getElem?_eq_some_iff.mp h).1
 have e:ixN xs.length (j:Int)=some j:=by
  unfold ixN;rw [if_pos (by omega),if_pos (by omega)];simp
 unfold atI;rw [e];exact h
theorem ZcO{α:Type}(xs:List α)(v:α):atI (xs++[v]) (-1)=some v:=by
 have hl:(xs++[v]).length=xs.length+1:=by simp
 have e:ixN (xs++[v]).length (-1)=some xs.length:=by
  unfold ixN;rw [hl,if_neg (by decide),if_pos (by omega)]
  congr 1
  omega
 unfold atI;rw [e];show(xs++[v])[xs.length]? = some v;simp
def Zhp(b:Expr):Prop:=∀o i,subscripted b false o i=operate [o,i] (getItem o i)
def IxR(X:Cx)(r:R2):Prop:=
 ∀(value slice:Expr)(pins:List (Addr×Obj))(s:Shared)(σ:St)(H:Hp)(x y:V)(v u:Value)(Q:VK),Inv X pins σ H s->RelV x v->RelV y u->r x y H Q ->
  subscripted slice false v u=operate [v,u] (getItem v u)->wpAny (model X.prog X.w) X.A (subscriptTail value slice v u) (EP X pins σ Q) X.xe s
def MtR(X:Cx)(id:String)(r:V->List V->Hp->VK->Prop):Prop:=
 ∀(pins:List (Addr×Obj))(s:Shared)(σ:St)(H:Hp)(x:V)(xs:List V)(v:Value)(us:List Value)(Q:VK),Inv X pins σ H s->RelV x v->Vals xs us->r x xs H Q ->
  wpAny (model X.prog X.w) X.A (call (.builtin id) (v::us)) (EP X pins σ Q) X.xe s
section
variable{X:Cx}{a b:Expr}{ta tb:TE}{pos:Pos}
theorem IxR.or{r r':R2}(h:IxR X r)(h':IxR X r'):IxR X (λx y H Q=>r x y H Q\/r' x y H Q):=by
 intro value slice pins s σ H x y v u Q I rx ry q hs;rcases q with q|q
 · exact h value slice pins s σ H x y v u Q I rx ry q hs
 · exact h' value slice pins s σ H x y v u Q I rx ry q hs
theorem Zn{r:R2}(hr:IxR X r)(ha:PE X a ta)(hb:PE X b tb)(hs:Zhp b):PE X (.Subscript a b pos) (tOp r ta tb):=by
 intro pins s σ H Q I h;exact Subscript_ (Zkf ha hb I h λv u s2 x y H2 I2 rx ry q=>hr a b pins s2 σ H2 x y v u Q I2 rx ry q (hs _ _))
def ZlU(K:PySem.W.Frag):R2:=λx y H Q=>∃p xs i v,x = .ref p/\y = .int i/\SqL K H p xs/\atI xs i=some v/\Q v H
def ZlV(K:PySem.W.Frag):R2:=λx y H Q=>∃p xs i v,x = .ref p/\y = .int i/\SqT K H p xs/\atI xs i=some v/\Q v H
def rIxS:R2:=λx y H Q=>∃z i c,x = .str z/\y = .int i/\z.length<=sizeLine/\atI z.cps.toList i=some c/\Q (.str ⟨#[c]⟩) H
theorem ix_list:IxR X (ZlU X.K):=by
 intro value slice pins s σ H x y v u Q I rx ry h hs;obtain⟨p,xs,i,z,rfl,rfl,hq,he,q⟩:=h;cases rx;obtain⟨t,rfl⟩:=ry;obtain⟨its,r,pl,hz⟩:=I.list hq;obtain⟨j,h1,h2,h3,h4,h5⟩:=Zb5 he;obtain⟨w,ew,rw'⟩:=r.get h2;have hl:=r.length;have hn:=Qa;have fin:EP X pins σ Q w s:=⟨z,H,I,rw',q⟩
 by_cases h0:0<=i
 · have hj : i.toNat = j := by
    rw [seqIndex_of h0 h5]at h1;exact Option.some.inj h1
   exact item_listR pl.isList h0 (by omega) (by rw [hj];simpa using ew) fin hs
 · have hj : (i + (its.toArray.size : Int)).toNat = j := by
    rw [seqIndex_neg (by omega) h4]at h1;rw [List.size_toArray,<-hl];exact Option.some.inj h1
   exact subscriptTail_builtinR (x:=w) pl.isList.typeIs slot_list_getitem.lookup
    (wpAny_getItem_list_neg (Q:=λr s'=>r=w/\EP X pins σ Q r s') pl.isList (by omega) (by rw [List.size_toArray]<;>omega) (by omega) (by rw [hj];simpa using ew) ⟨rfl,fin⟩) hs
theorem ix_tup:IxR X (ZlV X.K):=by
 intro value slice pins s σ H x y v u Q I rx ry h hs;obtain⟨p,xs,i,z,rfl,rfl,hq,he,q⟩:=h;cases rx;obtain⟨t,rfl⟩:=ry;obtain⟨its,r,pl,hz⟩:=I.tuple hq;obtain⟨j,h1,h2,h3,h4,h5⟩:=Zb5 he;obtain⟨w,ew,rw'⟩:=r.get h2;have hl:=r.length;have hn:=Qa;have fin:EP X pins σ Q w s:=⟨z,H,I,rw',q⟩
 exact subscriptTail_builtinR (x:=w) pl.typeIs slot_tuple_getitem.lookup
  (getItem_tuple (j:=j) (Q:=λr s'=>r=w/\EP X pins σ Q r s') pl (by omega) (by omega) (by rw [List.size_toArray,<-hl];exact h1) (by simpa using ew) ⟨rfl,fin⟩) hs
theorem ix_str:IxR X rIxS:=by
 intro value slice pins s σ H x y v u Q I rx ry h hs;obtain⟨z,i,c,rfl,rfl,hz,he,q⟩:=h;obtain⟨t,rfl⟩:=rx;obtain⟨t',rfl⟩:=ry;obtain⟨j,h1,h2,h3,h4,h5⟩:=Zb5 he;have hl:z.cps.toList.length=z.length:=by simp [Str.length]
 rw [hl]at h1 h4 h5;have hn:=Qa
 exact tail_any (typeIs_str s z t) slot_str_getitem.lookup (getItem_str (c:=c) (by
  have e1:decide (i < -(2 ^ 63:Int))=false:=decide_eq_false (by omega);have e2:decide (i ≥ 2 ^ 63)=false:=decide_eq_false (by omega);rw [e1,e2,Bool.or_false]) (by rw [h1];simpa using h2) ⟨.str ⟨#[c]⟩,H,I.tok _,⟨_,rfl⟩,q⟩) hs
theorem Zdv(its:List Value)(n j:Nat)(u:Value):Obj.mapSeq (·.setIfInBounds j u) { cls := .type "list",data := .seq its.toArray n }={ cls := .type "list",data := .seq (its.set j u).toArray n }:=by
 simp [Obj.mapSeq]
theorem Inv.lst{pins:List (Addr×Obj)}{σ:St}{H:Hp}{s:Shared}{p:Addr}{xs:List V}(I:Inv X pins σ H s)(h:H p=some (.lst xs)) :
 ∃(its:List Value) (n:Nat),Vals xs its/\s.heap.get? p=some { cls := .type "list",data := .seq its.toArray n }/\xs.length<=sizeLine:=by
 obtain⟨z,its,n,r,e⟩:=I.hok p _ h;exact⟨its,n,r,e,z⟩
theorem Inv.lstUpd {pins:List (Addr×Obj)} {σ:St} {H:Hp} {s:Shared} {p:Addr} {xs ys:List V} {its its':List Value} {n n':Nat} {f:Obj->Obj} (I:Inv X pins σ H s) (h:H p=some (.lst xs))
 (ho:s.heap.get? p=some { cls := .type "list",data := .seq its.toArray n }) (hf:f { cls := .type "list",data := .seq its.toArray n }={ cls := .type "list",data := .seq its'.toArray n' }) (r:Vals ys its') (hz:ys.length<=sizeLine) (t:Nat) :
 Inv X pins σ (upd H p (.lst ys)) { s with heap:=s.heap.update p f,toks:=t }:=by
 have e:(s.heap.update p f).get? p=some { cls := .type "list",data := .seq its'.toArray n' }:=by
  rw [Heap.get?_update_self f ho (by rw [hf]<;>rfl),hf]
 refine I.write (x:=p) (e:=p) (by rw [h];trivial) (.inl rfl) (λb u hb q=>(Heap.get?_update_other _ _ (Ne.symm hb)).trans q) ⟨_,e⟩ ?_;exact⟨hz,its',n',r,e⟩
def rSetL:V->V->V->Hp->(Hp->Prop)->Prop:=λo i v H Q=>∃p xs k j,o = .ref p/\i = .int k/\H p=some (.lst xs)/\ixN xs.length k=some j/\Q (upd H p (.lst (xs.set j v)))
theorem Zba:ZlN X rSetL:=by
 intro pins s σ H o i v ov iv u Q I ro ri rv h;obtain⟨p,xs,k,j,rfl,rfl,hp,hj,q⟩:=h;cases ro;obtain⟨t,rfl⟩:=ri;obtain⟨its,n,r,ho,hz⟩:=I.lst hp;obtain⟨h1,h2,h3,h4⟩:=Zei hj;have hl:=r.length;have hn:=Qa
 have I':Inv X pins σ (upd H p (.lst (xs.set j v))) { s with heap:=s.heap.update p (Obj.mapSeq (·.setIfInBounds j u)) }:=
  I.lstUpd hp ho (Zdv its n j u) (r.set rv j) (by rw [List.length_set];exact hz) s.toks
 by_cases h0:0<=k
 · have hk : k.toNat = j := by
    rw [seqIndex_of h0 h4]at h1;exact Option.some.inj h1
   exact PySem.W.ki_setAt ho h0 (by omega) (by rw [List.size_toArray,<-hl];exact h4) (by rw [hk];exact⟨_,I',q⟩)
 · have hk : (k + (its.toArray.size : Int)).toNat = j := by
    rw [seqIndex_neg (by omega) h3]at h1;rw [List.size_toArray,<-hl];exact Option.some.inj h1
   exact PySem.W.ki_setBack ho (by omega) (by rw [List.size_toArray,<-hl];exact h3) (by omega) (by rw [hk];exact⟨_,I',q⟩)
theorem ZbU(lo hi:Option Int)(n:Nat):(sliceBounds lo hi none n).1=((HT.sIx n 0 lo:Nat):Int)/\(sliceBounds lo hi none n).2.1=((HT.sIx n n hi:Nat):Int)/\(sliceBounds lo hi none n).2.2=1:=by
 refine⟨?_,?_,rfl⟩
 · cases lo with
   |none=>simp [sliceBounds,HT.sIx]
   |some i=>
    simp only [sliceBounds,HT.sIx,Option.getD_none,show(1:Int)>0 by decide,if_true]
    by_cases h:i<0
    · simp only [h,if_true]<;>omega
    · simp only [h,if_false]<;>omega
 · cases hi with
   |none=>simp [sliceBounds,HT.sIx]
   |some i=>
    simp only [sliceBounds,HT.sIx,Option.getD_none,show(1:Int)>0 by decide,if_true]
    by_cases h:i<0
    · simp only [h,if_true]<;>omega
    · simp only [h,if_false]<;>omega
theorem Zbo(its:List Value)(lo hi:Option Int):slicePick its.toArray lo hi none=((its.drop (HT.sIx its.length 0 lo)).take (HT.sIx its.length its.length hi-HT.sIx its.length 0 lo)).toArray:=by
 obtain⟨h1,h2,h3⟩:=ZbU lo hi its.toArray.size;unfold slicePick;rw [h1,h2,h3];simp only [sliceRange_one,pick_run,List.size_toArray]<;>rfl
def ZlW(K:PySem.W.Frag):V->Option Int->Option Int->Hp->VK->Prop:=λx lo hi H Q=>∃a xs,x = .ref a/\SqL K H a xs/\∀p,H p=none->Q (.ref p) (upd H p (.lst (Uw xs lo hi)))
theorem sl_list:SlR X (ZlW X.K):=by
 intro pins s σ H x v vl vu lo hi sl Q I rx hs pl pu h;obtain⟨a,xs,rfl,hx,q⟩:=h;cases rx;obtain⟨its,r,ht,hz⟩:=I.list hx;have hlen:=r.length;refine⟨"list",_,slot_list_getitem.lookup,ht.isList.typeIs,?_⟩;refine wpAny_getItem_list_slice ht.isList hs pl pu .none (by simp) ?_ (by rw [List.size_toArray]<;>omega);rw [Zbo,<-hlen];refine⟨.ref s.heap.objs.size,_,I.laid (t':=s.toks) (o:=.lst (Uw xs lo hi)) (λb ob q=>Heap.get?_push_of_some _ q) (Nat.le_refl _) ?_,rfl,q _ (I.hok.fresh (Nat.le_refl _))⟩
 exact⟨Nat.le_trans (ZaQ xs lo hi) hz,_,0,(r.drop (HT.sIx xs.length 0 lo)).take (HT.sIx xs.length xs.length hi-HT.sIx xs.length 0 lo),Heap.get?_push_size _ rfl⟩
def Vj:V->Bool
 | .non=>true
 | .bl _=>true
 | .int _=>true
 | .str _=>true
 |_=>false
def eqV:V->V->Bool
 | .non,.non=>true
 | .bl a,.bl b=>a == b
 | .bl a,.int b=>(if a then 1 else 0) == b
 | .int a,.bl b=>a == (if b then 1 else 0)
 | .int a,.int b=>a == b
 | .str a,.str b=>a == b
 |_,_=>false
theorem Zjk{A:Around}{s:Shared}{y x:V}{u v:Value}(ry:RelV y u)(rx:RelV x v)(fy:Vj y=true)(fx:Vj x=true):SeqAt.EqAt A s u v (eqV y x):=by
 cases y with
 |non=>
  cases ry;cases x with
  |non=>cases rx;exact SeqAt.EqAt.same _
  |bl b=>cases rx;exact SeqAt.EqAt.none_bool b
  |int b=>obtain⟨t,rfl⟩:=rx;exact SeqAt.EqAt.none_int b t
  |str b=>obtain⟨t,rfl⟩:=rx;exact SeqAt.EqAt.none_str b t
  |_=>exact absurd (show false=true from fx) Bool.false_ne_true
 |bl a=>
  cases ry;cases x with
  |non=>cases rx;exact SeqAt.EqAt.bool_none a
  |bl b=>cases rx;exact SeqAt.EqAt.bool_bool a b
  |int b=>obtain⟨t,rfl⟩:=rx;exact SeqAt.EqAt.bool_int a b t
  |str b=>obtain⟨t,rfl⟩:=rx;exact SeqAt.EqAt.bool_str a b t
  |_=>exact absurd (show false=true from fx) Bool.false_ne_true
 |int a=>
  obtain⟨t',rfl⟩:=ry;cases x with
  |non=>cases rx;exact SeqAt.EqAt.int_none a t'
  |bl b=>cases rx;exact SeqAt.EqAt.int_bool a t' b
  |int b=>obtain⟨t,rfl⟩:=rx;exact SeqAt.EqAt.int_int a t' b t
  |str b=>obtain⟨t,rfl⟩:=rx;exact SeqAt.EqAt.int_str a t' b t
  |_=>exact absurd (show false=true from fx) Bool.false_ne_true
 |str a=>
  obtain⟨t',rfl⟩:=ry;cases x with
  |non=>cases rx;exact SeqAt.EqAt.str_none a t'
  |bl b=>cases rx;exact SeqAt.EqAt.str_bool a t' b
  |int b=>obtain⟨t,rfl⟩:=rx;exact SeqAt.EqAt.str_int a t' b t
  |str b=>obtain⟨t,rfl⟩:=rx;exact SeqAt.EqAt.str_str a t' b t
  |_=>exact absurd (show false=true from fx) Bool.false_ne_true
 |_=>exact absurd (show false=true from fy) Bool.false_ne_true
def eqU(x:V)(u:Value):Bool:=match u with
 | .none=>eqV .non x
 | .bool b=>eqV (.bl b) x
 | .int i _=>eqV (.int i) x
 | .str z _=>eqV (.str z) x
 |_=>false
theorem Zgu{x y:V}{u:Value}(r:RelV y u)(f:Vj y=true):eqU x u=eqV y x:=by
 cases y with
 |non=>cases r;rfl
 |bl b=>cases r;rfl
 |int i=>obtain⟨t,rfl⟩:=r;rfl
 |str z=>obtain⟨t,rfl⟩:=r;rfl
 |_=>exact absurd (show false=true from f) Bool.false_ne_true
theorem QN{x:V}:∀{xs:List V}{us:List Value},Vals xs us->xs.all Vj=true->us.any (eqU x)=xs.any λy=>eqV y x
 |_,_,.nil,_=>rfl
 |y::xs,u::us,.cons r t,f=>by
  rw [List.all_cons,Bool.and_eq_true]at f;rw [List.any_cons,List.any_cons,Zgu r f.1,QN t f.2]
theorem QO{A:Around}{s:Shared}{x:V}{v:Value}(rx:RelV x v)(fx:Vj x=true):∀{xs:List V}{us:List Value},Vals xs us->xs.all Vj=true->∀u∈us,SeqAt.EqAt A s u v (eqU x u)
 |_,_,.nil,_=>λu hu=>by cases hu
 |y::xs,u::us,.cons r t,f=>λu' hu=>by
  rw [List.all_cons,Bool.and_eq_true]at f;rcases List.mem_cons.mp hu with rfl|hu
  · rw [Zgu r f.1];exact Zjk r rx f.1 fx
  · exact QO rx fx t f.2 u' hu
def inV(x:V)(xs:List V):Bool:=xs.any λy=>eqV y x
def rIn(K:PySem.W.Frag)(neg:Bool):R2:=λx y H Q=>∃p xs,y = .ref p/\(SqL K H p xs\/SqT K H p xs)/\Vj x=true/\xs.all Vj=true/\Q (.bl (if neg then !inV x xs else inV x xs)) H
theorem Ze0:OpR X (compareOp .In) (rIn X.K false):=by
 intro pins s σ H x y v u Q I rx ry h;obtain⟨p,xs,rfl,hq,fx,fs,q⟩:=h;cases ry;rcases hq with hq|hq
 · obtain⟨its,r,pl,hz⟩:=I.list hq
   refine SeqAt.in_listAt (eqU x) pl.isList (λw hw=>QO rx fx r fs w (by simpa using hw)) ⟨.bl _,H,I,rfl,?_⟩;rw [show its.toArray.any (eqU x)=its.any (eqU x) by simp,QN r fs];exact q
 · obtain⟨its,r,pl,hz⟩:=I.tuple hq
   refine SeqAt.in_tupleAt (eqU x) pl (λw hw=>QO rx fx r fs w (by simpa using hw)) ⟨.bl _,H,I,rfl,?_⟩;rw [show its.toArray.any (eqU x)=its.any (eqU x) by simp,QN r fs];exact q
theorem ZbV:OpR X (compareOp .NotIn) (rIn X.K true):=by
 intro pins s σ H x y v u Q I rx ry h;obtain⟨p,xs,rfl,hq,fx,fs,q⟩:=h;cases ry;rcases hq with hq|hq
 · obtain⟨its,r,pl,hz⟩:=I.list hq
   refine SeqAt.notIn_listAt (eqU x) pl.isList (λw hw=>QO rx fx r fs w (by simpa using hw)) ⟨.bl _,H,I,rfl,?_⟩;rw [show its.toArray.any (eqU x)=its.any (eqU x) by simp,QN r fs];exact q
 · obtain⟨its,r,pl,hz⟩:=I.tuple hq
   refine SeqAt.notIn_tupleAt (eqU x) pl (λw hw=>QO rx fx r fs w (by simpa using hw)) ⟨.bl _,H,I,rfl,?_⟩;rw [show its.toArray.any (eqU x)=its.any (eqU x) by simp,QN r fs];exact q
theorem ZbW:Ym X (.builtin "len") (λxs H Q=>∃p ys,xs=[.ref p]/\(SqL X.K H p ys\/SqT X.K H p ys)/\Q (.int ys.length) H):=by
 intro pins s σ H xs us Q I r h;obtain⟨p,ys,rfl,hq,q⟩:=h;obtain⟨u,rfl,rx⟩:=Y2 r;cases rx;have hn:=Qa;rcases hq with hq|hq
 · obtain⟨its,r',pl,hz⟩:=I.list hq
   have hlen:=r'.length;exact Calls.call_len_list pl.isList (by simp only [List.size_toArray]<;>omega) ⟨.int ys.length,H,I.tok _,⟨s.toks+1,by rw [List.size_toArray,hlen]⟩,q⟩
 · obtain⟨its,r',pl,hz⟩:=I.tuple hq
   have hlen:=r'.length;exact len_tuple pl (by simp only [List.size_toArray]<;>omega) ⟨.int ys.length,H,I.tok _,⟨s.toks+1,by rw [List.size_toArray,hlen]⟩,q⟩
theorem ZbX:Ym X (.builtin "len") (λxs H Q=>∃z,xs=[.str z]/\z.length<=sizeLine/\Q (.int z.length) H):=by
 intro pins s σ H xs us Q I r h;obtain⟨z,rfl,hz,q⟩:=h;obtain⟨u,rfl,t,rfl⟩:=Y2 r;have hn:=Qa;exact len_str (by omega) ⟨.int z.length,H,I.tok _,⟨_,rfl⟩,q⟩
theorem ZbY:Ym X (.type "list") (λxs H Q=>∃p ys,xs=[.ref p]/\(SqL X.K H p ys\/SqT X.K H p ys)/\∀l,H l=none->Q (.ref l) (upd H l (.lst ys))):=by
 intro pins s σ H xs us Q I r h;obtain⟨p,ys,rfl,hq,q⟩:=h;obtain⟨u,rfl,rx⟩:=Y2 r;cases rx
 have fin:∀(its:List Value),Vals ys its->ys.length<=sizeLine->∀(h':Heap)(c':Nat),(∀b o',s.heap.get? b=some o'->h'.get? b=some o') ->
  h'.get? s.heap.objs.size=some { cls := .type "list",dict:=none,data := .seq its.toArray c',slots := #[] }->EP X pins σ Q (.ref s.heap.objs.size) { s with heap:=h' }:=λits r' hz h' c' kp e=>
  ⟨.ref s.heap.objs.size,_,I.laid (t':=s.toks) kp (Nat.le_refl _) (show ObjOk X.prog X.w _ h' _ (.lst ys)from⟨hz,its,c',r',e⟩),rfl,q _ (I.hok.fresh (Nat.le_refl _))⟩
 rcases hq with hq|hq
 · obtain⟨its,r',pl,hz⟩:=I.list hq
   have hlen:=r'.length;obtain⟨o,ho,hc,n,hd⟩:=pl.isList;exact call_list_seq p (.inl rfl) ho hc hd (λh' c' kp e=>fin its r' hz h' c' kp e) (by simp only [List.size_toArray]<;>omega)
 · obtain⟨its,r',pl,hz⟩:=I.tuple hq
   have hlen:=r'.length;obtain⟨o,ho,hc,n,hd⟩:=pl;exact call_list_seq p (.inr rfl) ho hc hd (λh' c' kp e=>fin its r' hz h' c' kp e) (by simp only [List.size_toArray]<;>omega)
theorem Zbp:Ym X (.type "tuple") (λxs H Q=>∃p ys,xs=[.ref p]/\((SqL X.K H p ys/\∀l,H l=none->Q (.ref l) (upd H l (.tup ys)))\/(SqT X.K H p ys/\Q (.ref p) H))):=by
 intro pins s σ H xs us Q I r h;obtain⟨p,ys,rfl,h⟩:=h;obtain⟨u,rfl,rx⟩:=Y2 r;cases rx;rcases h with⟨hq,q⟩|⟨hq,q⟩
 · obtain⟨its,r',pl,hz⟩:=I.list hq
   have hlen:=r'.length;refine call_tuple_list pl.isList (λh' kp => ?_) (by simp only [List.size_toArray]<;>omega);have I1:Inv X pins σ H { s with heap:=h' }:=I.kept (t':=s.toks) kp
   have I2:Inv X pins σ (upd H h'.objs.size (.tup ys)) { s with heap:=h'.push { cls := .type "tuple",data := .seq its.toArray } }:=
    I1.laid (t':=s.toks) (λb o e=>Heap.get?_push_of_some _ e) (Nat.le_refl _) (show ObjOk X.prog X.w _ _ _ (.tup ys)from⟨hz,its,r',TupN.new _ _⟩)
   exact⟨.ref h'.objs.size,_,I2,rfl,q _ (I1.hok.fresh (Nat.le_refl _))⟩
 · obtain⟨its,r',pl,hz⟩:=I.tuple hq
   exact call_tuple_same pl ⟨.ref p,H,I,rfl,q⟩
def tyV(K:PySem.W.Frag)(T:String)(x:V)(H:Hp):Prop:=match x with
 | .str _=>T = "str"
 | .int _=>T = "int"
 | .ref p=>(T = "list" /\ ∃xs,SqL K H p xs)\/(T = "tuple" /\ ∃o,K.lookup p=some o/\o.cls = .type "tuple" /\ o.dict=none) \/
  (T = "dict" /\ ((∃kvs,H p=some (.dK kvs))\/∃kvs,H p=some (.dT kvs)))\/(T = "set" /\ ∃S n,H p=some (.set S n))\/(T = "tuple" /\ ∃xs,H p=some (.tup xs))
 |_=>False
theorem Zgv{pins:List (Addr×Obj)}{σ:St}{H:Hp}{s:Shared}{T:String}{x:V}{v:Value}(I:Inv X pins σ H s)(r:RelV x v)(ty:tyV X.K T x H) :
 s.TypeIs v T/\∀a,v = .ref a->∃ob,s.heap.get? a=some ob/\ob.dict=none:=by
 cases x with
 |str z=>
  obtain⟨t,rfl⟩:=r;cases(show T = "str" from ty);exact⟨typeIs_str s z t,λ_ e=>nomatch e⟩
 |int i=>
  obtain⟨t,rfl⟩:=r;cases(show T = "int" from ty);exact⟨typeIs_int s i t,λ_ e=>nomatch e⟩
 |ref p=>
  cases r;rcases ty with⟨rfl,xs,hq⟩|⟨rfl,o,hk,hc,hd⟩|⟨rfl,hk⟩|⟨rfl,S,n,hk⟩|⟨rfl,xs,hk⟩
  · obtain⟨its,_,pl,_⟩:=I.list hq
    refine⟨pl.isList.typeIs,λa e => ?_⟩;cases e;obtain⟨o,n,e,c,hd,_⟩:=pl;exact⟨o,e,hd⟩
  · refine⟨⟨o,I.kIn p o hk,hc⟩,λa e => ?_⟩
    cases e;exact⟨o,I.kIn _ o hk,hd⟩
  · have z : ∃ o, s.heap.get? p = some o /\ o.ExactDict := by
     rcases hk with⟨kvs,hk⟩|⟨kvs,hk⟩
     · obtain⟨_,_,_,_,o,_,_,e,ex,_⟩:=I.hok p _ hk
       exact⟨o,e,ex⟩
     · obtain⟨_,_,_,_,o,_,_,e,ex,_⟩:=I.hok p _ hk
       exact⟨o,e,ex⟩
    obtain⟨o,e,ex⟩:=z;refine⟨⟨o,e,ex.1⟩,λa e2 => ?_⟩;cases e2;exact⟨o,e,ex.2.1⟩
  · obtain⟨o,_,_,_,e,ex,_⟩:=I.hok p _ hk
    refine⟨⟨o,e,ex.1⟩,λa e2 => ?_⟩;cases e2;exact⟨o,e,ex.2.1⟩
  · obtain⟨_,its,_,o,e,c,_,dn⟩:=(show ObjOk X.prog X.w H s.heap p (.tup xs)from I.hok p _ hk)
    refine⟨⟨o,e,c⟩,λa e2 => ?_⟩;cases e2;exact⟨o,e,dn⟩
 |_=>exact False.elim ty
def Ux(K:PySem.W.Frag)(T:String)(r:V->List V->Hp->VK->Prop)(to:TE):TE:=λσ H Q=>to σ H λx H1=>tyV K T x H1/\r x [] H1 Q
def tBM(K:PySem.W.Frag)(T:String)(r:V->List V->Hp->VK->Prop)(to:TE)(t:TA):TE:=λσ H Q=>to σ H λx H1=>tyV K T x H1/\t σ H1 λxs H2=>r x xs H2 Q
variable{o e:Expr}{es:List Expr}{to:TE}{t:TA}{name:Str}{apos cpos:Pos}{T id:String}{r:V->List V->Hp->VK->Prop}
theorem Zjl (pa:PlainAttrs T) (slot:Slot T name id) (hty:typeOf (.builtin id)=pure (.type "method_descriptor")) (hm:MtR X id r) (ho:PE X o to)
 (hbase:attributeBase o name X.env (eval o X.env)=eval o X.env:=by rfl) (hline:(apos.endLine == cpos.line)=true:=by rfl):PE X (.Call (.Attribute o name apos) [] [] cpos) (Ux X.K T r to):=by
 intro pins s σ H Q I h;refine wpAny_Call_method0_late hbase hline (thn (ho pins s σ H _ I h) λv s1 ⟨x,H1,I1,r1,ty,q1⟩ => ?_);obtain⟨h1,h2⟩:=Zgv I1 r1 ty;exact⟨T,id,pa,slot,hty,h1,h2,Calls.callWith_builtin rfl (PySem.evalArgs_none (hm pins s1 σ H1 x [] v [] Q I1 r1 .nil q1))⟩
theorem Zkz (pa:PlainAttrs T) (slot:Slot T name id) (hty:typeOf (.builtin id)=pure (.type "method_descriptor")) (hm:MtR X id r) (ho:PE X o to) (ha:PA X (e::es) t)
 (hbase:attributeBase o name X.env (eval o X.env)=eval o X.env:=by rfl)
 (hfew:((backTo cpos (starEach (e::es) X.env)).all (λx => !x.1)&&(backToKw cpos (keywordEach [] X.env)).all (λx=>x.1.isSome)
   && decide ((e::es).length+([]:List Keyword).length+(if([]:List Keyword).isEmpty then 0 else 1)<30))=true:=by rfl)
 (hline:(apos.endLine == cpos.line)=true:=by rfl) (hs:starEach (e::es) X.env=(false,eval e X.env)::starEach es X.env:=by rfl) (hplain:(backTo cpos (starEach es X.env)).any (·.1)=false:=by rfl) :
 PE X (.Call (.Attribute o name apos) (e::es) [] cpos) (tBM X.K T r to t):=by
 intro pins s σ H Q I h;refine wpAny_Call_method_late hbase hfew hline rfl (thn (ho pins s σ H _ I h) λv s1 ⟨x,H1,I1,r1,ty,q1⟩ => ?_);obtain⟨h1,h2⟩:=Zgv I1 r1 ty;refine⟨T,id,pa,slot,hty,h1,h2,?_⟩;have hA:=ha cpos pins s1 σ H1 _ I1 q1;rw [hs]at hA ⊢;refine Calls.callWith_builtin (by show(false||(backTo cpos (starEach es X.env)).any (·.1))=false;rw [hplain]<;>rfl) (Calls.evalArgs_plain ?_)
 exact thn hA λus s2 ⟨vs,H2,I2,r2,q2⟩=>hm pins s2 σ H2 x vs v us Q I2 r1 r2 q2
end
end L2
namespace L2
open PySem PySem.Spec PyProof.Rows
def MtM(X:Cx)(id:String)(r:V->List V->Hp->VK->Prop):Prop:=
 ∀(pins:List (Addr×Obj))(s:Shared)(σ:St)(H:Hp)(x:V)(xs:List V)(v:Value)(us:List Value)(Q:VK),Inv X pins σ H s->RelV x v->Vals xs us->r x xs H Q ->
  wpAny (model X.prog X.w) X.A (call (.builtin id) (v::us)) (EP X pins σ Q) X.xe s
theorem Vals.one:∀{x:V}{us:List Value},Vals [x] us->∃u,us=[u]/\RelV x u
 |_,_,.cons r .nil=>⟨_,rfl,r⟩
theorem Vals.two:∀{x y:V}{us:List Value},Vals [x,y] us->∃u v,us=[u,v]/\RelV x u/\RelV y v
 |_,_,_,.cons r (.cons q .nil)=>⟨_,_,rfl,r,q⟩
theorem Vals.zero:∀{us:List Value},Vals [] us->us=[]
 |_,.nil=>rfl
theorem Vals.dropLast{xs:List V}{us:List Value}(h:Vals xs us):Vals xs.dropLast us.dropLast:=by
 induction h with
 |nil=>exact .nil
 |cons r t ih=>
  cases t with
  |nil=>exact .nil
  |cons q t'=>exact .cons r ih
theorem Vals.rep{xs:List V}{us:List Value}(h:Vals xs us):∀k:Nat,Vals (List.replicate k xs).flatten (List.replicate k us).flatten
 |0 => .nil
 |k+1=>by
  rw [List.replicate_succ,List.replicate_succ,List.flatten_cons,List.flatten_cons];exact Vals.append h (Vals.rep h k)
theorem Zdw{α:Type}(l:List α):l.eraseIdx (l.length-1)=l.dropLast:=by
 induction l with
 |nil=>rfl
 |cons a r ih=>
  cases r with
  |nil=>rfl
  |cons b r=>
   have e:(a::b::r).length-1=((b::r).length-1)+1:=by
    have h1:(a::b::r).length=r.length+2:=rfl;have h2:(b::r).length=r.length+1:=rfl;omega
   rw [e,List.eraseIdx_cons_succ,ih]
   all_goals rfl
theorem Zbx(its:List Value):∀(k:Nat)(acc:List Value),
 List.foldl (λx1 x2=>x1++x2) acc.toArray (List.replicate k its.toArray)=(acc++(List.replicate k its).flatten).toArray
 |0,acc=>by simp
 |k+1,acc=>by
  have e:acc.toArray++its.toArray=(acc++its).toArray:=by simp
  have e2:(acc++its)++(List.replicate k its).flatten=acc++(List.replicate (k+1) its).flatten:=by
   rw [List.replicate_succ,List.flatten_cons,List.append_assoc]
  rw [<-e2,<-Zbx its k (acc++its),<-e,List.replicate_succ,List.foldl_cons]
section
variable{X:Cx}{pins:List (Addr×Obj)}{σ:St}{H:Hp}{s:Shared}{l b:Addr}{xs ys zs:List V}
theorem Inv.lset {its its':List Value} {n:Nat} {f:Array Value->Array Value} {t':Nat} (I:Inv X pins σ H s) (hH:H l=some (.lst xs))
 (e:s.heap.get? l=some { cls := .type "list",data := .seq its.toArray n }) (hf:f its.toArray=its'.toArray) (hv:Vals ys its') (hz:ys.length<=sizeLine) :
 Inv X pins σ (upd H l (.lst ys)) { s with heap:=s.heap.update l (Obj.mapSeq f),toks:=t' }:=by
 have q:=PySem.IsL.update e f;rw [hf]at q;refine I.write (x:=l) (e:=l) (by rw [hH];exact trivial) (.inl rfl) (λb' u hb hu=>(Heap.get?_update_other s.heap (Obj.mapSeq f) (Ne.symm hb)).trans hu) ⟨_,q⟩ ?_;exact⟨hz,its',_,hv,q⟩
theorem Inv.lnew{its:List Value}{t':Nat}(I:Inv X pins σ H s)(hv:Vals ys its)(hz:ys.length<=sizeLine) :
 Inv X pins σ (upd H s.heap.objs.size (.lst ys)) { s with heap:=s.heap.push { cls := .type "list",data := .seq its.toArray },toks:=t' }:=
 I.laid (λ_ _ q=>Heap.get?_push_of_some _ q) (Nat.le_refl _) ⟨hz,its,0,hv,Heap.get?_push_size _ rfl⟩
theorem Inv.fresh(I:Inv X pins σ H s):H s.heap.objs.size=none:=I.hok.fresh (Nat.le_refl _)
theorem Inv.lstM(I:Inv X pins σ H s)(hH:H l=some (.lst xs)):xs.length<=sizeLine/\∃(its:List Value) (n:Nat),Vals xs its/\xs.length=its.length/\s.heap.get? l=some { cls := .type "list",data := .seq its.toArray n }:=by
 obtain⟨z,its,n,r,e⟩:=I.hok l _ hH;exact⟨z,its,n,r,r.length,e⟩
theorem ZfJ{n:Nat}(h:n<=sizeLine):Builtin.List.listTooLong n=false:=by
 unfold Builtin.List.listTooLong;exact decide_eq_false (by omega)
end
section
variable{X:Cx}
def rAppend:V->List V->Hp->VK->Prop:=λx vs H Q=>∃l xs y,x = .ref l/\vs=[y]/\H l=some (.lst xs)/\xs.length<sizeLine/\Q .non (upd H l (.lst (xs++[y])))
theorem X7:MtM X "list.append" rAppend:=by
 intro pins s σ H x vs v us Q I rx rv h;obtain⟨l,xs,y,rfl,rfl,hH,hz,q⟩:=h;cases rx;obtain⟨u,rfl,ru⟩:=rv.one;obtain⟨z,its,n,r,hl,e⟩:=I.lstM hH;refine call_meets F.slot_list_append ⟨_,e,rfl⟩ F.entry_list_append (F.args_list_append_2 _ _) (PySem.list_append l its.toArray n u (by rw [List.size_toArray];omega)) ⟨e,?_⟩;refine⟨.non,_,I.lset (its':=its++[u]) hH e (by simp) (r.append (.cons ru .nil)) ?_,rfl,q⟩
 rw [List.length_append,List.length_singleton];omega
def rPop:V->List V->Hp->VK->Prop:=λx vs H Q=>∃l xs y,x = .ref l/\vs=[]/\H l=some (.lst xs)/\xs[xs.length-1]? = some y/\Q y (upd H l (.lst xs.dropLast))
theorem Zjm:MtM X "list.pop" rPop:=by
 intro pins s σ H x vs v us Q I rx rv h;obtain⟨l,xs,y,rfl,rfl,hH,hy,q⟩:=h;cases rx;have hus:=rv.zero;subst hus;obtain⟨z,its,n,r,hl,e⟩:=I.lstM hH;obtain⟨u,hu,ru⟩:=r.get hy
 have hy':its.toArray[its.toArray.size-1]? = some u:=by
  show its.toArray[its.length-1]? = some u;rw [<-Array.getElem?_toList,<-hl];exact hu
 refine call_meets F.slot_list_pop ⟨_,e,rfl⟩ F.entry_list_pop (F.args_list_pop_1 _) (MeetsSeq.list_pop_last l its.toArray n u hy' (by rw [List.size_toArray];omega)) ⟨e,?_⟩;refine⟨y,_,I.lset (its':=its.dropLast) hH e ?_ r.dropLast ?_,ru,q⟩
 · show its.toArray.eraseIdxIfInBounds (its.toArray.size-1)=its.dropLast.toArray
   rw [List.size_toArray,List.eraseIdxIfInBounds_toArray,Zdw]
 · rw [List.length_dropLast]
   omega
def rClear:V->List V->Hp->VK->Prop:=λx vs H Q=>∃l xs,x = .ref l/\vs=[]/\H l=some (.lst xs)/\Q .non (upd H l (.lst []))
theorem ZcP:MtM X "list.clear" rClear:=by
 intro pins s σ H x vs v us Q I rx rv h;obtain⟨l,xs,rfl,rfl,hH,q⟩:=h;cases rx;have hus:=rv.zero;subst hus;obtain⟨z,its,n,r,hl,e⟩:=I.lstM hH;refine call_meets F.slot_list_clear ⟨_,e,rfl⟩ F.entry_list_clear (F.args_list_clear_1 _) (AutoSeq1.list_clear_list_0 l its.toArray n (by rw [List.size_toArray];omega)) ⟨e,?_⟩;exact⟨.non,_,I.lset (its':=[]) (ys:=[]) hH e rfl .nil (Nat.zero_le _),rfl,q⟩
def Zmn:R2:=λx y H Q=>∃l b xs zs,x = .ref l/\y = .ref b/\H l=some (.lst xs)/\H b=some (.lst zs)/\xs.length+zs.length<=sizeLine/\∀p,H p=none->Q (.ref p) (upd H p (.lst (xs++zs)))
theorem Zhq{α:Type}(xs:List α)(k:Nat):(List.replicate k xs).flatten.length=k*xs.length:=by
 induction k with
 |zero=>simp
 |succ k ih=>rw [List.replicate_succ,List.flatten_cons,List.length_append,ih,Nat.succ_mul,Nat.add_comm]
end
section
variable{prog:Program}{w:World}{A:Around}{E:Value->Shared->Prop}{s:Shared}
set_option maxRecDepth 100000 in
end
section
variable{X:Cx}
end
end L2
namespace Att
open PySem PySem.W PySem.Calls PyProof.Rows
theorem ZaW{P:Params}{h:Heap}:∀(ns:List Int)(vs:List Value),WellAll P h vs (ns.map WData.int)->IntsAre vs ns:=by
 intro ns
 induction ns with
 |nil=>
  intro vs w;rw [List.map_nil]at w;cases w;exact .nil
 |cons n ns ih=>
  intro vs w;rw [List.map_cons]at w;cases w with
  |cons a b=>
   cases a;exact .cons _ _ (ih _ b)
theorem Ze1 {l:OpenLaw} {n:Nat} (hn:l.most=some n) {P:Params} {h:Heap} {args:List WData} {vals:List Value}
 (hpre:l.row.toRowW.claim.pre args=true) (hwl:WellAll P h vals args) :
 ∃a vs ns,vals=[Value.ref a]/\args=[WData.list (ns.map WData.int)]/\h.get? a=some { cls := .type "list",data := .seq vs.toArray }/\IntsAre vs ns/\ns.length<=n:=by
 have hsh:WShape.hasAll [] args [.list .int]=true:=(pre_splitW hpre).1;have hc:l.pre.holds [] { args:=args }=true:=(pre_splitW hpre).2;obtain⟨d,r,rfl,h1,h2⟩:=hasAllW_cons hsh;obtain rfl:=hasAllW_nil h2;obtain⟨xs,rfl,h3⟩:=hasW_list h1;obtain⟨ns,rfl⟩:=items_int h3
 have hlen:ns.length<=n:=by
  unfold OpenLaw.pre at hc
  have h4:(WTm.not (.lt (.lit (.int (n:Int))) (.len (.arg 0)))).holds [] { args:=[.list (ns.map .int)] }=true:=by
   have h4:=(holds_andW hc).1;rw [hn]at h4;exact h4
  have h5:=condW_of h4 (w_not (w_lt w_lit (w_len_list (w_arg rfl))));rw [List.length_map]at h5;refine Nat.le_of_not_lt λq => ?_
  have q':(n:Int)<((ns.length:Nat):Int):=by omega
  first
   |(rw [decide_eq_true q']at h5;exact absurd h5 (by decide))
   |(simp at h5;omega)
 cases hwl with
 |cons w1 w2=>
  cases w2;cases w1 with
  |list ho hall=>exact⟨_,_,ns,rfl,rfl,ho,ZaW ns _ hall,hlen⟩
theorem Ze2(l:OpenLaw)(args:List WData):l.row.toRowW.claim.post args (.bool true) args=true:=
 postW_of (r:=l.row.toRowW) (X:=(true == true))
  (show WShape.has [] (.bool true) .bool=true by first|rfl|decide|simp [WShape.has,WShape.arms,WShape.armsAll])
  (show(WTm.eq .res (.lit (.bool true))).value [] { args:=args,res:=some (.bool true),after:=args }=some (.bool (true == true))from w_eq_bool (w_res rfl) w_lit) rfl
theorem attach_call {l:OpenLaw} {n:Nat} {q:Program} {loose:List Str} {XP:(Str->Option Value)->Heap->Prop} {YP:World->Heap->Prop} {d:DefRec}
 (hn:l.most=some n) (hdf:d.params.defaults=[])
 (call:∀(w:World)(s₀ s₁:Shared)(mg mb:Str->Option Value)(fa:Addr)(o:Obj)(pm cd doc:Value)(a:Addr)(vs:List Value)(ns:List Int),
   Ground q loose [] XP w s₀ mg mb s₁.heap->YP w s₁.heap ->
   s₁.heap.get? fa=some o->o.data = .func (docDef d.name d.params d.body d.scope pm cd doc)->s₁.heap.CodeRec cd d.name->mg d.name=some (.ref fa) ->
   s₁.heap.get? a=some { cls := .type "list",data := .seq vs.toArray }->IntsAre vs ns->ns.length<=n->s₁.gens = #[] ->
   codeAny (model l.prog w) callerA (.call (.ref fa) ⟨[.ref a],[]⟩) (λr s'=>r = .ok (.ret (.bool true))/\OldK s₁.heap s'.heap/\s'.os=s₁.os/\AllBare s'.gens) s₁) :
 WalkO q loose XP YP l.row.toRowW d [] (λf vs=>PySem.call f vs):=by
 intro w s₀ s₁ mg mb G Y fa o pm cd doc dV kV ho hd hcd hD hmg hg args vals as hpre hlay hrd hwl hlo;obtain rfl:dV = .none:=Dflts.none hD hdf;obtain rfl:kV = .none:=Dflts.noKw hD;obtain⟨a,vs,ns,rfl,rfl,hobj,hints,hlen⟩:=Ze1 hn hpre hwl;refine enter_call (codeAny_mono (call w s₀ s₁ mg mb fa o pm cd doc a vs ns G Y ho (fd_plain hd) hcd hmg hobj hints hlen hg) λr s' hq => ?_);obtain⟨rfl,h2,h3,h4⟩:=hq
 exact⟨.inl ⟨.bool true,.bool true,[],rfl,λ_=>rfl,.bool true,Ze2 l _,λ_=>⟨List.Pairwise.nil,λ_ hm=>(nomatch hm)⟩⟩,h2,h3,h4⟩
section
variable{prog:Program}{w:World}{A:Around}{E:Value->Shared->Prop}{s:Shared}{K:Frag}
end
end Att
namespace L2
open PySem PySem.Spec PyProof.Rows
theorem Zby:∀{vs:List Value}{ns:List Int},IntsAre vs ns->Vals (ns.map V.int) vs
 |_,_,.nil => .nil
 |_,_,.cons n t h => .cons ⟨t,rfl⟩ (Zby h)
def Zkj(H:Hp):Prop:=∀b,H b=none\/∃o xs,H b=some (.frz o (.lst xs))
theorem ZfK {P:Program} {w:World} {K:PySem.W.Frag} {mg mb:Str->Option Value} {CX:CXT} {k:Nat} {fa a:Addr} {fd:FuncData} {x:Str} {sp:Sp} {s₁:Shared} {vs:List Value} {ns:List Int}
 (KX:K.In s₁.heap) (hns:s₁.heap.Ns mainGlobals mg) (hb:s₁.heap.Ns builtinsNs mb) (hbb:∀x:Str,x ≠ "__name__" -> mb x=bootBuiltins x) (hlim:s₁.heap.NoLimit) (hg:s₁.gens = #[])
 (ha:s₁.heap.get? a=some { cls := .type "list",data := .seq vs.toArray }) (hi:IntsAre vs ns) (hl:ns.length<=sizeLine) (hr:Room k callerA)
 (F:∀base:Heap,K.In base->base.Ns mainGlobals mg->FnOk P w K mg base CX k fa fd [x] sp) (hbind:∀(s:Shared)(u:Value),BindsTo s fd ⟨[u],[]⟩ [(x,u)])
 (hsp:∀H:Hp,Zkj H->SqL K H a (ns.map V.int)->sp [.ref a] H (λv _=>v = .bl true) λ_ _ _=>False)
 (hCX:∀H e s',CX [] H s₁ (λ_ _ _=>False) e s'->False) :
 codeAny (model P w) callerA (.call (.ref fa) ⟨[.ref a],[]⟩) (λr s'=>r = .ok (.ret (.bool true))/\OldK s₁.heap s'.heap/\s'.os=s₁.os/\AllBare s'.gens) s₁:=by
 have rv:=Zby hi;have lenV:=hi.length
 have core:∀H:Hp,Zkj H->SqL K H a (ns.map V.int)->HOk P w H s₁.heap->(∀b,H b≠none->b=a)->(H a≠none->K.lookup a=none) ->
  codeAny (model P w) callerA (.call (.ref fa) ⟨[.ref a],[]⟩) (λr s'=>r = .ok (.ret (.bool true))/\OldK s₁.heap s'.heap/\s'.os=s₁.os/\AllBare s'.gens) s₁:=by
  intro H hO hS hok hA hK;have base_of:∀{b:Addr}{o:Obj},s₁.heap.get? b=some o->H b=none->(VR s₁.heap H).get? b=some o:=λe n=>ZfD e n
  have noA:∀{b:Addr}{o:Obj}{es:Array DictEntry}{ep:Nat},s₁.heap.get? b=some o->o.data = .dict es ep->H b=none:=λ{b o es ep} e d=>by
   cases q:H b with
   |none=>rfl
   |some u=>
    have e':b=a:=hA b (by rw [q];simp);subst e';rw [ha]at e;cases e;have d':Data.seq vs.toArray _=Data.dict es ep:=d;cases d'
  have nsK:∀{b:Addr}{m:Str->Option Value},s₁.heap.Ns b m->(VR s₁.heap H).Ns b m:=λ{b m} ⟨o,es,ep,e,d,r⟩=>⟨o,es,ep,base_of e (noA e d),d,r⟩
  have hKb:K.In (VR s₁.heap H):=λb o e=>base_of (KX b o e) (by
   cases q:H b with
   |none=>rfl
   |some u=>
    have e':b=a:=hA b (by rw [q];simp);subst e';rw [hK (by rw [q];simp)]at e;cases e)
  have hM:Mod K mg (VR s₁.heap H):=⟨hKb,nsK hns,⟨mb,nsK hb,hbb⟩,let⟨mc,h1,h2⟩:=hlim;⟨mc,nsK h1,h2⟩⟩
  have e0:Env0 P w K mg (VR s₁.heap H) callerA [] s₁ H:=⟨rfl,hM,λb o e=>Zhi e,Nat.le_of_eq (ZeS _ _),trivial,λb hb=>absurd (show b∈([]:List Addr)from hb) (by simp),hok,.of_eq hg⟩
  refine codeAny_mono ((F _ hKb (nsK hns)).run callerA [] s₁ H ⟨[.ref a],[]⟩ [.ref a] [.ref a] _ _ hr e0 (hbind s₁ (.ref a)) (.cons rfl .nil) (hsp H hO hS)) λr s' h => ?_
  cases r with
  |error e=>exact(hCX H e s' h).elim
  |ok fl=>
   cases fl with
   |next=>exact False.elim h
   |brk=>exact False.elim h
   |cont=>exact False.elim h
   |ret u=>
    obtain⟨v,H',os,bare,un,hok',r',q⟩:=h;have q':v = .bl true:=q;subst q';obtain rfl:u=Value.bool true:=r';refine⟨rfl,OldK.of_keep λb o e => ?_,os,bare⟩;cases q:H b with
    |none=>exact un.keep b o e q (by intro z;exact absurd (show b∈([]:List Addr)from z) (by simp)) (by simp)
    |some u=>
     rcases hO b with z|⟨ob,xs,z⟩
     · rw [q]at z;cases z
     · have z2:=un.frzs b ob _ z
       obtain⟨e1,_⟩:=hok b _ z;obtain⟨e2,_⟩:=hok' b _ z2;rw [e]at e1;cases e1;exact e2
 cases hk:K.lookup a with
 |some o=>
  have e:=KX a o hk;rw [ha]at e;cases e;refine core (λ_=>none) (λ_ => .inl rfl) (.inr ⟨_,vs.toArray,_,hk,rfl,rfl,rfl,by rw [List.size_toArray,lenV];exact hl,by simpa using rv⟩) (λb u z=>by have z':(none:Option HO)=some u:=z;cases z') (λb z=>absurd rfl z) λz=>absurd rfl z
 |none=>
  refine core (λb=>if b=a then some (.frz { cls := .type "list",data := .seq vs.toArray } (.lst (ns.map V.int)))else none) (λb => ?_) (.inl (.inr ⟨{ cls := .type "list",data := .seq vs.toArray },if_pos rfl⟩)) (λb u z => ?_) (λb z => ?_) λ_=>hk
  · by_cases hb:b=a
    · exact .inr ⟨_,_,if_pos hb⟩
    · exact .inl (if_neg hb)
  · by_cases hb:b=a
    · have z':=(if_pos hb).symm.trans z
      cases z';subst hb;exact⟨ha,by rw [List.length_map];exact hl,vs,_,rv,ha⟩
    · have z':=(if_neg hb).symm.trans z
      cases z'
  · by_cases hb:b=a
    · exact hb
    · exact absurd (if_neg hb) z
end L2
namespace L2
open PySem PySem.Spec PyProof.Rows
theorem walk_of {l:PySem.W.OpenLaw} {n k:Nat} {q:Program} {loose:List Str} {XP:(Str->Option Value)->Heap->Prop} {YP:World->Heap->Prop} {d:DefRec} {K:Params->PySem.W.Frag} {CX:World->CXT} {sp:World->Sp} {x:Str}
 (hn:l.most=some n) (hn2:n<=sizeLine) (hdf:d.params.defaults=[]) (hr:Room k callerA)
 (hY:∀(w:World)(h:Heap),YP w h->(K w.params).In h)
 (F:∀(w:World)(mg:Str->Option Value)(fa:Addr)(h:Heap),(K w.params).In h->h.Ns mainGlobals mg->mg d.name=some (.ref fa) ->
   ∃fd:FuncData,(∀(s:Shared)(u:Value),BindsTo s fd ⟨[u],[]⟩ [(x,u)]) /\
    ∀base:Heap,(K w.params).In base->base.Ns mainGlobals mg->FnOk l.prog w (K w.params) mg base (CX w) k fa fd [x] (sp w))
 (hsp:∀(w:World)(H:Hp)(a:Addr)(ns:List Int),ns.length<=n->Zkj H->SqL (K w.params) H a (ns.map V.int)->sp w [.ref a] H (λv _=>v = .bl true) λ_ _ _=>False)
 (hCX:∀(w:World)(H:Hp)(s:Shared)(e:Value)(s':Shared),CX w [] H s (λ_ _ _=>False) e s'->False) :
 PySem.W.WalkO q loose XP YP l.row.toRowW d [] (λf vs=>PySem.call f vs):=by
 refine Att.attach_call hn hdf λw s₀ s₁ mg mb fa o pm cd doc a vs ns G Y ho hd hcd hmg hobj hints hlen hg => ?_
 have KX:=hY w _ Y;obtain⟨fd,hb,hF⟩:=F w mg fa _ KX G.T.g hmg;exact ZfK KX G.T.g G.T.b G.T.builtins G.T.nolimit hg hobj hints (Nat.le_trans hlen hn2) hr hF hb (λH hO hS=>hsp w H a ns hlen hO hS) λH e s'=>hCX w H s₁ e s'
end L2
namespace L2
open PySem PySem.Spec PyProof.Rows
def Zej(s:Stmt)(j:Nat):Stmt:=match s with
 | .ClassDef _ _ _ body _ _ _ _ _ _ _=>body.getD j (.Pass ⟨0,0,0,0⟩)
 |_ => .Pass ⟨0,0,0,0⟩
def defArgs(s:Stmt):Arguments:=match s with
 | .FunctionDef _ a _ _ _ _ _ _ _ _=>a
 |_=>{ posonlyargs:=[],args:=[],vararg:=none,kwonlyargs:=[],kw_defaults:=[],kwarg:=none,defaults:=[] }
def defBody(s:Stmt):List Stmt:=match s with
 | .FunctionDef _ _ b _ _ _ _ _ _ _=>b
 |_=>[]
def defScope(s:Stmt):Scope:=match s with
 | .FunctionDef _ _ _ _ _ _ sc _ _ _=>sc
 |_=>{ kind := .function,names:=[],isGenerator:=false,isCoroutine:=false }
abbrev CX0:CXT:=λ_ _ _ _ _ _=>False
abbrev E0:XK:=λ_ _ _=>False
theorem Z3{X:Cx}:QM CX0 X E0:=λ_ _ _ _ _ _ _ h=>h.elim
structure Fun(K:PySem.W.Frag)(x qual:Str)(st:Stmt)(f:Addr)(fd:FuncData):Prop where
 ex:∃(oc:Value) (od:Option Addr) (kV doc pm:Value) (an:Option Addr) (cdv ct:Value) (osl:Array (Option Value)),
  fd=fnOf x qual (defArgs st) (defBody st) (defScope st) .none kV doc pm an cdv ct/\K.lookup f=some ⟨oc,od,.func fd,osl⟩/\codeIn K cdv qual=true
 kp:keepIn K (.ref f)=true
section
variable{P:Program}{w:World}{K:PySem.W.Frag}{mg:Str->Option Value}{base:Heap}
theorem Fun.ok {x qual:Str} {st:Stmt} {f:Addr} {fd:FuncData} {N ps:List Str} {k:Nat} {sp:Sp} (F:Fun K x qual st f fd) (S:FnScope N ps (defScope st)) (len:∀vs H Q E,sp vs H Q E->vs.length=ps.length)
 (hbody:∀(cdv:Value)(A:Around)(outer:List Env)(s:Shared)(H:Hp)(vs:List V)(Q:VK)(E:XK),Room k (A.deeper (envOfC qual (defScope st) s.heap.objs.size f cdv))->sp vs H Q E ->
   ∃t,PSs (X6 CX0 P w K mg base N qual (defScope st) f cdv A outer s H E).nox (defBody st) t/\t { nx:=λ_ H'=>Q .non H',rt:=Q } (start N vs) H):FnOk P w K mg base CX0 (k+1) f fd ps sp:=by
 obtain⟨oc,od,kV,doc,pm,an,cdv,ct,osl,rfl,lk,hcd⟩:=F.ex;refine Ziy lk hcd S len λA outer s H vs Q E hr hsp => ?_
 obtain⟨t,h,q⟩:=hbody cdv A outer s H vs Q E hr hsp;exact⟨t,h.nox,q⟩
theorem Fun.binds {x qual:Str} {st:Stmt} {f:Addr} {fd:FuncData} {ps:List Str} (F:Fun K x qual st f fd)
 (h:∀(kV doc pm:Value)(an:Option Addr)(cdv ct:Value)(us:List Value),us.length=ps.length->bindArgs (fnOf x qual (defArgs st) (defBody st) (defScope st) .none kV doc pm an cdv ct) ⟨us,[]⟩=pure (ps.zip us)):Binds K fd ps []:=by
 obtain⟨oc,od,kV,doc,pm,an,cdv,ct,osl,rfl,lk,hcd⟩:=F.ex;exact .all (h kV doc pm an cdv ct)
theorem ZL {x qual:Str} {st:Stmt} {f:Addr} {oc:Value} {od an:Option Addr} {osl:Array (Option Value)} {kV doc pm cdv ct:Value} (l:K.lookup f=some ⟨oc,od,.func (fnOf x qual (defArgs st) (defBody st) (defScope st) .none kV doc pm an cdv ct),osl⟩)
 (c:codeIn K cdv qual=true) (k:keepIn K (.ref f)=true):Fun K x qual st f (fnOf x qual (defArgs st) (defBody st) (defScope st) .none kV doc pm an cdv ct):=⟨⟨oc,od,kV,doc,pm,an,cdv,ct,osl,rfl,l,c⟩,k⟩
end
section
variable{X:Cx}
theorem pv (i:Nat) {x:Str} {pos:Pos} (hN:X.N[i]? = some x:=by rfl) (hv:Vis X.env.scope x:=by first|exact Or.inl rfl|exact Or.inr (Or.inl rfl)|exact Or.inr (Or.inr rfl)) (hd:(x == ("__debug__" : Str))=false:=by decide)
 (hcd:(x == ("__classdict__" : Str))=false:=by decide):PE X (.Name x pos) (YR i):=Zjb hN hv hd hcd
end
theorem Vk{A B:Prop}(h:B):if false=true then A else B:=by
 rw [if_neg Bool.false_ne_true];exact h
theorem Vl{A B:Prop}(h:A):if true=true then A else B:=by
 rw [if_pos rfl];exact h
def Same(H H':Hp):Prop:=∀b o,H b=some o->H' b=some o
theorem Same.refl(H:Hp):Same H H:=λ_ _ h=>h
theorem Same.trans{H H1 H2:Hp}(a:Same H H1)(b:Same H1 H2):Same H H2:=λc o h=>b c o (a c o h)
theorem Same.free{H H':Hp}(e:Same H H'){l:Addr}(h:H' l=Option.none):H l=Option.none:=by
 cases q:H l with
 |none=>rfl
 |some o=>
  rw [e l o q]at h;cases h
theorem Same.seq{K:PySem.W.Frag}{H H':Hp}{a:Addr}{xs:List V}(e:Same H H')(h:SqL K H a xs):SqL K H' a xs:=by
 rcases h with(h|⟨o,h⟩)|h
 · exact .inl (.inl (e _ _ h))
 · exact .inl (.inr ⟨o,e _ _ h⟩)
 · exact .inr h
end L2
namespace HT
open PySem PySem.W PySem.Calls PyProof.Rows
def de(P:Params)(x:Str)(t:Nat)(v:Value):DictEntry:=⟨PyData.keyHash P x,.str x t,v⟩
def dO(c:Value)(es:List DictEntry)(n:Nat):Obj:=⟨c,none,.dict es.toArray n,#[]⟩
def cO(vs:List Value):Obj:=⟨.type "code",none,.fields vs.toArray,#[]⟩
def fO(x q:Str)(st:Stmt)(dv kv doc pm:Value)(an:Option Addr)(cd ct:Value):Obj:=⟨.type "function",none,.func (fnOf x q (L2.defArgs st) (L2.defBody st) (L2.defScope st) dv kv doc pm an cd ct),#[]⟩
def c3(x q:Str)(t l a n r:Nat)(r2:Nat)(v w:Value)(r3 k k2:Nat):Obj:=cO [.str x t,.str q (t+1),.str "/claim/cut.py" (t+2),.int l 0,.int a 0,.int 0 0,.int 0 0,.int n 0,.ref r,.bool true,.int 181 0,.ref r2,.none,v,w,.ref r3,.int k 0,.int l 0,.str "/claim/cut.py" k2]
def f3(x q:Str)(st:Stmt)(m:Str)(t c:Nat):Obj:=fO x q st .none .none .none (.str m t) none (.ref c) .none
def met{α:Type}(_:α):Bool:=true
noncomputable def ZkA(P:Params):BT:=
 ((((((((((BT.nil.ins 0 (boot_o_0 P)).ins 1 (boot_o_1 P)).ins 2 (boot_o_2 P)).ins 3 (boot_o_3 P)).ins 4 (boot_o_4 P)).ins 5 (boot_o_5 P)).ins 6 (boot_o_6 P)).ins 7 (boot_o_7 P)).ins 8 (boot_o_8 P)).ins 9 (boot_o_9 P)).ins 10 (boot_o_10 P)
noncomputable abbrev S0(w:World)(os:OsState):Shared:=⟨boot_heap w.params,Array.mk [],boot_drawn,boot_toks,os⟩
noncomputable abbrev S0T(w:World)(os:OsState):SharedT:=⟨ZkA w.params,11,(boot_heap w.params).life,Array.mk [],boot_drawn,boot_toks,os⟩
theorem Zmo(w:World)(os:OsState):(S0T w os).abs=S0 w os:=rfl
noncomputable def Zkk(thr ok:Thread->Bool)(st:SharedT->Thread->Option (SharedT×Thread))(n:Nat):SharedT->Thread->Option SharedT:=
 @Nat.rec (λ_=>SharedT->Thread->Option SharedT) (λ_ _=>none)
  (λ_ ih s t => @Bool.rec (λ_=>Option SharedT) (@Bool.rec (λ_=>Option SharedT) none (@Option.rec (SharedT×Thread) (λ_=>Option SharedT) none (λr=>ih r.1 r.2) (st s t)) (ok t)) (some s) (thr t)) n
theorem ZcQ{tb:String->Option Builtin}{p:Program}{w:World}{n₀:Nat}{ann:Option Value}:∀{n:Nat}{s s':SharedT}{t:Thread},Zkk through (stepOk n₀ ann) (stepT (denote tb) p w) n s t=some s'->topRun tb p w n₀ ann n s.abs t=some s'.abs
 |0,_,_,_,h=>by cases h
 |n+1,s,s',t,h=>by
  replace h : @Bool.rec (λ_=>Option SharedT) (@Bool.rec (λ_=>Option SharedT) none (@Option.rec (SharedT×Thread) (λ_=>Option SharedT) none (λr=>Zkk through (stepOk n₀ ann) (stepT (denote tb) p w) n r.1 r.2) (stepT (denote tb) p w s t)) (stepOk n₀ ann t)) (some s) (through t)=some s':=h;unfold topRun;cases ht:through t with
  |true=>rw [ht]at h;cases h;rfl
  |false=>
   rw [ht]at h;cases hk:stepOk n₀ ann t with
   |false=>rw [hk]at h;cases h
   |true=>
    rw [hk]at h;cases hs:stepT (denote tb) p w s t with
    |none=>rw [hs]at h;cases h
    |some r=>obtain⟨s₂,t₂⟩:=r;rw [hs]at h;rw [stepT_spec hs];exact ZcQ h
theorem left_of {p q:Program} {loose:List Str} {Xt:Shared->Bool} {α:Type} {Yf:Shared->α} {Ya:World->α} {N:Nat}
 (e:opening p=plainProg p.main.scope.names) (hN:Nat.ble 600 N=true) (f:∀s,fenceModules? p s=some s)
 (run:∀w:World,(λos=>(Zkk through (stepOk 11 (some (.ref 6))) (stepT (denote treeTable) p w) N (S0T w os) (topStub p)).map λs=>((staticsOk (importedModules p.main.body) (boot_heap w.params) s.abs.heap&&namesBound p s.abs.heap&&gensDone s.abs&&laidKept (boot_heap w.params) s.abs.heap),
   openSeen q loose (importedModules p.main.body) Xt true s.abs,Yf s.abs))=λ_=>some (true,openGood q loose,Ya w)):LeftO p q loose Xt Yf Ya N:=λw=>by
 obtain⟨⟨h,gs,d,k,os⟩,e,e'⟩:=Option.map_eq_some_iff.mp (boot_open e hN f w);obtain⟨rfl,rfl,rfl,rfl⟩:h=boot_heap w.params/\gs=Array.mk []/\d=boot_drawn/\k=boot_toks:=by simpa using e'
 obtain⟨s1,r,l⟩:=Option.map_eq_some_iff.mp (congrFun (run w) os);obtain⟨l1,l2,l3⟩:_/\_/\_:=by simpa only [Prod.mk.injEq]using l
 have r:=ZcQ r;rw [Zmo]at r;have z1:((boot_heap w.params).isNs mainGlobals&&(Array.mk []:Array GenState).size == 0)=true:=by kernel_rfl
 have z2:(boot_heap w.params).objs.size=11:=rfl;have z3:(boot_heap w.params).nsMap mainGlobals "__annotations__" = some (.ref 6):=by kernel_rfl
 have t:topFrom treeTable p w N (S0 w os)=some s1.abs:=by
  unfold topFrom;dsimp only;rw [z1,z2,z3,r];show(match staticsOk (importedModules p.main.body) (boot_heap w.params) s1.abs.heap&&namesBound p s1.abs.heap&&gensDone s1.abs&&laidKept (boot_heap w.params) s1.abs.heap with|true=>_|false=>_)=_;rw [l1]
 unfold openEnds;rw [e];show(topFrom treeTable p w N _).map _=_;rw [t];exact congrArg some (Prod.ext l2 l3)
end HT
namespace L2
open PySem Builtin Builtin.Str
abbrev tx(cs:List Nat):Str:=⟨cs.toArray⟩
theorem tx_inj{a b:List Nat}:tx a=tx b ↔ a=b:=by
 constructor
 · intro h
   have h2:a.toArray=b.toArray:=congrArg Str.cps h;simpa using h2
 · rintro rfl;rfl
theorem ZdW(cs:List Nat):(tx cs).cps.toList=cs:=by simp [tx]
theorem Vm(cs:List Nat):(tx cs).length=cs.length:=by simp [tx,Str.length]
theorem Zjn(a b:List Nat):tx a++tx b=tx (a++b):=by
 show Str.mk (a.toArray++b.toArray)=Str.mk (a++b).toArray;simp
def YF(n d:Nat):Option Int->Nat
 |none=>d
 |some v=>if v<0 then(v+(n:Int)).toNat else min v.toNat n
def cutL{α:Type}(xs:List α)(lo hi:Option Int):List α:=(xs.drop (YF xs.length 0 lo)).take (YF xs.length xs.length hi-YF xs.length 0 lo)
theorem Zgw(lo hi:Option Int)(n:Nat):strSliceIndices lo hi 1 n=(List.range (YF n n hi-YF n 0 lo)).map λk=>YF n 0 lo+k:=by
 have clip:∀v:Int,max 0 (min (if v<0 then v+(n:Int)else v) (n:Int))=(((if v<0 then(v+(n:Int)).toNat else min v.toNat n):Nat):Int):=by
  intro v
  by_cases h:v<0
  · rw [if_pos h,if_pos h];omega
  · rw [if_neg h,if_neg h];omega
 have key:∀(a b:Nat),sliceRange (a:Int) (b:Int) 1=(List.range (b-a)).map λk=>a+k:=by
  intro a b;unfold sliceRange;simp only [show(1:Int)>0 by decide,if_true]
  have e:(if(a:Int)<(b:Int)then((b:Int)-(a:Int)+1-1) / 1 else 0).toNat=b-a:=by
   split
   · rw [Int.ediv_one];omega
   · omega
  rw [e];refine List.map_congr_left λk _ => ?_
  omega
 unfold strSliceIndices;simp only [show(1:Int)>0 by decide,if_true];cases lo with
 |none=>
  cases hi with
  |none=>exact key 0 n
  |some v=>
   have:=key 0 (YF n n (some v));refine Eq.trans ?_ this;show sliceRange 0 (max 0 (min (if v<0 then v+(n:Int)else v) (n:Int))) 1=_;rw [clip v];rfl
 |some u=>
  cases hi with
  |none=>
   have:=key (YF n 0 (some u)) n;refine Eq.trans ?_ this;show sliceRange (max 0 (min (if u<0 then u+(n:Int)else u) (n:Int))) n 1=_;rw [clip u];rfl
  |some v=>
   have:=key (YF n 0 (some u)) (YF n n (some v));refine Eq.trans ?_ this;show sliceRange (max 0 (min (if u<0 then u+(n:Int)else u) (n:Int))) (max 0 (min (if v<0 then v+(n:Int)else v) (n:Int))) 1=_;rw [clip u,clip v];rfl
theorem ZcR{α:Type}(xs:List α)(l:Nat):∀k,l+k<=xs.length->((List.range k).map λj=>l+j).filterMap (λj=>xs[j]?)=(xs.drop l).take k
 |0,_=>by simp
 |k+1,h=>by
  rw [List.range_succ,List.map_append,List.filterMap_append,ZcR xs l k (by omega)];have hx:xs[l+k]? = some (xs[l+k]'(by omega)):=List.getElem?_eq_getElem (by omega);rw [List.take_add_one,List.getElem?_drop,hx];simp [hx]
theorem Ze3(n:Nat)(o:Option Int):YF n n o<=n:=by
 cases o with
 |none=>exact Nat.le_refl _
 |some v=>
  show(if v<0 then(v+(n:Int)).toNat else min v.toNat n)<=n
  split<;>omega
theorem ZfL(cs:List Nat)(lo hi:Option Int):Txt.slice (tx cs) lo hi=tx (cutL cs lo hi):=by
 have hn:(tx cs).length=cs.length:=Vm cs;have hb:=Ze3 cs.length hi
 have hp:((strSliceIndices lo hi 1 cs.length).filterMap λj=>cs[j]?)=cutL cs lo hi:=by
  rw [Zgw];unfold cutL
  by_cases h:YF cs.length 0 lo<=YF cs.length cs.length hi
  · exact ZcR cs _ _ (by omega)
  · have e:YF cs.length cs.length hi-YF cs.length 0 lo=0:=by omega
    rw [e];simp
 unfold Txt.slice;rw [hn]
 by_cases hc:((1:Int) == 1&&(strSliceIndices lo hi 1 cs.length).length == cs.length)=true
 · rw [if_pos hc]
   have hl:(strSliceIndices lo hi 1 cs.length).length=cs.length:=by simpa using hc
   rw [Zgw,List.length_map,List.length_range]at hl;have e0:YF cs.length 0 lo=0\/cs.length=0:=by omega
   rw [tx_inj];unfold cutL;rw [hl];rcases e0 with e0|e0
   · rw [e0];simp
   · have:cs=[]:=List.eq_nil_of_length_eq_zero e0
     subst this;simp
 · rw [if_neg hc]
   have:((strSliceIndices lo hi 1 cs.length).filterMap λj=>(tx cs).cps[j]?)=cutL cs lo hi:=by
    rw [<-hp];simp [tx]
   rw [this]
end L2
namespace L2
open PySem Builtin Builtin.Str
end L2
namespace L2
open PySem PySem.Spec PyProof.Rows
section
variable{prog:Program}{w:World}{A:Around}{R:Result->Shared->Prop}{s:Shared}
theorem ZbZ {elt target iter:Expr} {ifs:List Expr} {scope:Scope} {pos:Pos} {it acc:Value} {env:Env} (I:Nat->Shared->Prop)
 (turn:∀n s,I n s->wpAny (model prog w) A (pyNext it) (λr s₁=>match r with
   |none=>R (.ok .next) s₁
   |some v=>wpAny (model prog w) A (letOwnedTupleGo target it v) (λ_ s₀=>wpAny (model prog w) A (assign target env v) (λ_ s₂=>
    wpAny (model prog w) A (forIn ifs true λc r=>if r=true then do let ok <-isTrue c env (eval c env);pure (ForInStep.yield ok)else pure (ForInStep.yield r)) (λok s₃=>
     if ok=true then wpAny (model prog w) A (eval elt env) (λx s₄=>
      wpAny (model prog w) A (call (.builtin "list.append") [acc,x]) (λ_ s₅=>∃m,m<n/\I m s₅) (notedBy (model prog w) A env λe s'=>R (.error e) s') s₄) (notedBy (model prog w) A env λe s'=>R (.error e) s') s₃
     else ∃m,m<n/\I m s₃) (notedBy (model prog w) A env λe s'=>R (.error e) s') s₂) (notedBy (model prog w) A env λe s'=>R (.error e) s') s₀) (notedBy (model prog w) A env λe s'=>R (.error e) s') s₁) (notedBy (model prog w) A env λe s'=>R (.error e) s') s)
 (n:Nat) (h:I n s) :
 codeAny (model prog w) A (.compLoop (.ListComp elt [⟨target,iter,ifs,0⟩] scope pos) 0 it acc env) R s:=by
 refine codeAny_loop rfl I (λn s hI => ?_) n h;show wpAny _ A ((compTurn (.ListComp elt [⟨target,iter,ifs,0⟩] scope pos) 0 it acc env).onRaise (λx=>do noteFrame x env;theTreesLotGoes x)) _ _ s;refine wpAny_noted ?_;rw [compTurn_list];refine wpAny_bind (wpAny_standAt (wpAny_bind (wpAny_mono (turn n s hI) (λr s₁ h₁ => ?_) λ_ _ h'=>h')));cases r with
 |none=>exact wpAny_pure h₁
 |some v=>
  refine wpAny_bind (wpAny_mono h₁ (λ_ s₀ h₀ => ?_) λ_ _ h'=>h');refine wpAny_bind (wpAny_mono h₀ (λ_ s₂ h₂=>wpAny_bind (wpAny_mono h₂ (λok s₃ h₃ => ?_) λ_ _ h'=>h')) λ_ _ h'=>h');cases ok with
  |false=>exact wpAny_pure ⟨rfl,h₃⟩
  |true=>
   exact wpAny_bind (wpAny_bind (wpAny_mono h₃ (λx s₄ h₄=>wpAny_bind (wpAny_mono h₄ (λ_ s₅ h₅=>wpAny_pure (wpAny_pure ⟨rfl,h₅⟩)) λ_ _ h'=>h')) λ_ _ h'=>h'))
end
def Xc(cells:List (Str×Addr)):List (Str×NameKind)->List (Str×Addr)->List (Str×Addr)
 | [],acc=>acc
 |(n,k)::r,acc=>Xc cells r (if(k == .free)=true then(n,(cells.lookup n).getD 0)::acc else acc)
theorem Zab{env:Env}:∀(names:List (Str×NameKind))(acc:List (Str×Addr)),(∀x∈names,x.2 = .free->∃c,env.cells.lookup x.1=some c) ->
 (forIn names acc λ(x:Str×NameKind) (r:List (Str×Addr))=>match x with
   |(name,kind)=>if(kind == .free)=true then(do let c <-cellOf env name;pure (ForInStep.yield ((name,c)::r)))else pure (ForInStep.yield r))=(pure (Xc env.cells names acc):Sem _)
 | [],acc,_=>rfl
 |(n,k)::r,acc,h=>by
  rw [List.forIn_cons];show((if(k == .free)=true then(do let c <-cellOf env n;pure (ForInStep.yield ((n,c)::acc)))else pure (ForInStep.yield acc)) >>= _)=_
  by_cases hk:(k == .free)=true
  · obtain⟨c,hc⟩:=h (n,k) List.mem_cons_self (by simpa using hk)
    have e:cellOf env n=pure c:=by
     unfold cellOf;rw [hc]
    rw [if_pos hk,e];show(forIn r ((n,c)::acc) _:Sem _)=_;rw [Zab r _ λx hx=>h x (List.mem_cons_of_mem _ hx)]
    conv=>rhs;unfold Xc
    rw [if_pos hk,hc];rfl
  · rw [if_neg hk]
    show(forIn r acc _:Sem _)=_;rw [Zab r _ λx hx=>h x (List.mem_cons_of_mem _ hx)]
    conv=>rhs;unfold Xc
    rw [if_neg hk]
theorem Zal{scope:Scope}{env:Env}(h:∀x∈scope.names,x.2 = .free->∃c,env.cells.lookup x.1=some c):closureFor scope env=pure (Xc env.cells scope.names []):=by
 have e:=Zab (env:=env) scope.names [] h;unfold closureFor;show((forIn scope.names ([]:List (Str×Addr)) _:Sem _) >>= λcs=>pure cs)=_
 have e2:(forIn scope.names ([]:List (Str×Addr)) λ(x:Str×NameKind) (r:List (Str×Addr))=>match x with
  |(name,kind)=>if(kind == .free)=true then(do let c <-cellOf env name;pure (ForInStep.yield ((name,c)::r)))else pure (ForInStep.yield r))=(pure (Xc env.cells scope.names []):Sem _):=e
 rw [e2];rfl
theorem VY{cells:List (Str×Addr)}{x:Str}{c:Addr}:∀(names:List (Str×NameKind))(acc:List (Str×Addr)),(∀y∈names,y.2 = .free->∃c,cells.lookup y.1=some c) ->
 (∀c,acc.lookup x=some c->cells.lookup x=some c)->(Xc cells names acc).lookup x=some c->cells.lookup x=some c
 | [],acc,_,ha,h=>ha c h
 |(n,k)::r,acc,hf,ha,h=>by
  unfold Xc at h;refine VY r _ (λy hy=>hf y (List.mem_cons_of_mem _ hy)) (λc' h' => ?_) h
  by_cases hk:(k == .free)=true
  · rw [if_pos hk]at h'
    obtain⟨c0,hc0⟩:=hf (n,k) List.mem_cons_self (by simpa using hk);rw [List.lookup_cons]at h';cases hx:x == n with
    |true=>
     rw [hx]at h';have e:x=n:=eq_of_beq hx;subst e;have h'':(cells.lookup x).getD 0=c':=Option.some.inj h';have hc0':cells.lookup x=some c0:=hc0;rw [hc0']at h'' ⊢;exact congrArg some h''
    |false=>
     rw [hx]at h';exact ha c' h'
  · rw [if_neg hk]at h'
    exact ha c' h'
theorem ZaB{cells:List (Str×Addr)}{x:Str}:∀(names:List (Str×NameKind))(acc:List (Str×Addr)),((x,NameKind.free)∈names\/∃c,acc.lookup x=some c)->∃c,(Xc cells names acc).lookup x=some c
 | [],acc,h=>by
  rcases h with h|h
  · cases h
  · exact h
 |(n,k)::r,acc,h=>by
  unfold Xc;refine ZaB r _ ?_;rcases h with h|⟨c,h⟩
  · rcases List.mem_cons.mp h with e|e
    · cases e
      refine .inr ⟨(cells.lookup x).getD 0,?_⟩;rw [if_pos (by rfl),List.lookup_cons];simp
    · exact .inl e
  · refine .inr ?_
    by_cases hk:(k == .free)=true
    · rw [if_pos hk,List.lookup_cons]
      cases hx:x == n with
      |true=>exact⟨_,rfl⟩
      |false=>exact⟨c,h⟩
    · rw [if_neg hk]
      exact⟨c,h⟩
structure CompSc(X:Cx)(scope:Scope)(tn cn:List Str)(js:List Nat):Prop where
 kind:scope.kind = .function
 nocell:∀y∈scope.names,y.2 ≠ .cell
 names:∀y∈scope.names,y.2 = .local->scope.names.lookup y.1=some .local
 free:∀y∈scope.names,y.2 = .free->X.env.kindOf y.1=some .cell\/X.env.kindOf y.1=some .free
 cap:∀(k:Nat)(x:Str),cn[k]? = some x->∃j,js[k]? = some j/\X.N[j]? = some x/\(X.env.kindOf x=some .cell\/X.env.kindOf x=some .free)/\scope.names.lookup x=some .free
 len:cn.length=js.length
def Zek(onames:List (Str×NameKind))(oN:List Str)(names:List (Str×NameKind))(cn:List Str)(js:List Nat):Bool:=
 names.all (λy => !(y.2 == .cell))&&names.all (λy => !(y.2 == .local)||(names.lookup y.1 == some .local)) &&
 names.all (λy => !(y.2 == .free)||(onames.lookup y.1 == some .cell||onames.lookup y.1 == some .free)) &&
 ((cn.zip js).all λp=>oN[p.2]? == some p.1&&(onames.lookup p.1 == some .cell||onames.lookup p.1 == some .free)&&names.lookup p.1 == some .free)&&(cn.length == js.length)
theorem CompSc.mk'{X:Cx}{scope:Scope}{tn cn:List Str}{js:List Nat}{osc:Scope}{oN:List Str}(hk:scope.kind = .function)(ho:X.env.scope=osc)(hN:X.N=oN)(h:Zek osc.names oN scope.names cn js=true):CompSc X scope tn cn js:=by
 unfold Zek at h;simp only [Bool.and_eq_true]at h;obtain⟨⟨⟨⟨h1,h2⟩,h3⟩,h4⟩,h5⟩:=h;rw [List.all_eq_true]at h1 h2 h3 h4;have hlen:cn.length=js.length:=by simpa using h5
 refine⟨hk,λy hy => ?_,λy hy e => ?_,λy hy e => ?_,λk x e => ?_,hlen⟩
 · have:=h1 y hy
   simpa using this
 · have:=h2 y hy
   simpa [e]using this
 · have:=h3 y hy
   unfold Env.kindOf;rw [ho];simpa [e]using this
 · have hkl:k<cn.length:=(List.getElem?_eq_some_iff.mp e).1
   have hkj:k<js.length:=by omega
   refine⟨js[k],by simp [hkj],?_⟩
   have hz:(x,js[k])∈cn.zip js:=by
    have e2:(cn.zip js)[k]? = some (x,js[k]):=by
     rw [List.getElem?_zip_eq_some];exact⟨e,by simp [hkj]⟩
    exact List.mem_of_getElem? e2
   have:=h4 _ hz;unfold Env.kindOf;rw [ho,hN];simp only [Bool.and_eq_true,Bool.or_eq_true,beq_iff_eq]at this;exact⟨this.1.1,this.1.2,this.2⟩
def XR(σ:St)(js:List Nat):St:=js.map λj=>(σ[j]?).getD none
def blk(n:Nat)(σ:St)(js:List Nat):St:=List.replicate n none++XR σ js
def Qb(X:Cx)(scope:Scope)(N':List Str)(C:Addr)(s₂:Shared)(H₂:Hp)(fp:List Addr)(xe:Value->Shared->Prop):Cx:=
 { X with N:=N',s₀:=s₂,H₀:=H₂,env:=compEnvC scope (Xc X.env.cells scope.names []) C X.env,outer:=X.stack,ex:=fp,fn:=λ_=>false,pn:=[],xe:=xe }
section
variable{X:Cx}{pins:List (Addr×Obj)}{σ:St}{H₂:Hp}{s₂:Shared}{scope:Scope}{tn cn:List Str}{js:List Nat}
theorem CompSc.clos(S:CompSc X scope tn cn js)(ok:X.Ok):∀y∈scope.names,y.2 = .free->∃c,X.env.cells.lookup y.1=some c:=λy hy e=>ok.has y.1 (S.free y hy e)
theorem Zaa{env:Env}:∀{names:List (Str×NameKind)}{x:Str}{k:NameKind},(names.map λ(n,k)=>if(k == NameKind.free&&env.scope.kind == .function&&env.kindOf n == some .cell)then(n,NameKind.cell)else(n,k)).lookup x=some k ->
 (k = .cell\/k = .free)->(∀y∈names,y.2 ≠ .cell)->(x,NameKind.free)∈names
 | [],_,_,h,_,_=>by simp at h
 |(n,k0)::r,x,k,h,hk,hc=>by
  have ih := @Zaa env r x k;have h:List.lookup x ((if(k0 == NameKind.free&&env.scope.kind == .function&&env.kindOf n == some .cell)=true then(n,NameKind.cell)else(n,k0))::_)=_:=h
  by_cases hb:(k0 == NameKind.free&&env.scope.kind == .function&&env.kindOf n == some .cell)=true
  · rw [if_pos hb,List.lookup_cons]at h
    have e0:k0 = .free:=by
     simp only [Bool.and_eq_true]at hb;simpa using hb.1.1
    cases hx:x == n with
    |true=>
     have e:x=n:=eq_of_beq hx;subst e;subst e0;exact List.mem_cons_self
    |false=>
     rw [hx]at h;exact List.mem_cons_of_mem _ (ih h hk λy hy=>hc y (List.mem_cons_of_mem _ hy))
  · rw [if_neg hb,List.lookup_cons]at h
    cases hx:x == n with
    |true=>
     rw [hx]at h;have e:x=n:=eq_of_beq hx;have e0:k0=k:=Option.some.inj h;subst e;subst e0;rcases hk with hk|hk
     · exact absurd hk (hc (x,k0) List.mem_cons_self)
     · subst hk
       exact List.mem_cons_self
    |false=>
     rw [hx]at h;exact List.mem_cons_of_mem _ (ih h hk λy hy=>hc y (List.mem_cons_of_mem _ hy))
theorem Zar{env:Env}:∀{names:List (Str×NameKind)}{x:Str},names.lookup x=some .free ->
 (names.map λ(n,k)=>if(k == NameKind.free&&env.scope.kind == .function&&env.kindOf n == some .cell)then(n,NameKind.cell)else(n,k)).lookup x=some .cell \/
 (names.map λ(n,k)=>if(k == NameKind.free&&env.scope.kind == .function&&env.kindOf n == some .cell)then(n,NameKind.cell)else(n,k)).lookup x=some .free
 | [],_,h=>by simp at h
 |(n,k0)::r,x,h=>by
  have ih := @Zar env r x
  show List.lookup x ((if(k0 == NameKind.free&&env.scope.kind == .function&&env.kindOf n == some .cell)=true then(n,NameKind.cell)else(n,k0))::_)=_ \/
   List.lookup x ((if(k0 == NameKind.free&&env.scope.kind == .function&&env.kindOf n == some .cell)=true then(n,NameKind.cell)else(n,k0))::_)=_
  cases hx:x == n with
  |true=>
   simp only [List.lookup_cons,hx]at h;cases h
   by_cases hb:(NameKind.free == NameKind.free&&env.scope.kind == .function&&env.kindOf n == some .cell)=true
   · rw [if_pos hb];simp [List.lookup_cons,hx]
   · rw [if_neg hb];simp [List.lookup_cons,hx]
  |false=>
   simp only [List.lookup_cons,hx]at h
   by_cases hb:(k0 == NameKind.free&&env.scope.kind == .function&&env.kindOf n == some .cell)=true
   · rw [if_pos hb];simp only [List.lookup_cons,hx];exact ih h
   · rw [if_neg hb];simp only [List.lookup_cons,hx];exact ih h
theorem Zhr{C:Addr}{fp:List Addr}{xe:Value->Shared->Prop}(S:CompSc X scope tn cn js)(I:Inv X pins σ H₂ s₂)(hC:s₂.heap.objs.size<=C)(hf:∀b∈fp,XA X pins H₂ b)(ho:∀b∈fp,∃o,s₂.heap.get? b=some o/\∀v,o.data ≠ .cell v) :
 (Qb X scope (tn++cn) C s₂ H₂ fp xe).Ok where
 mod:=I.ok.mod
 kind:=S.kind
 glob:=I.ok.glob
 blt:=I.ok.blt
 above:=hC
 inj:=λx y c h1 h2=>I.ok.inj x y c (VY _ [] (S.clos I.ok) (λ_ z=>by cases z) h1) (VY _ [] (S.clos I.ok) (λ_ z=>by cases z) h2)
 has:=λx hx=>by
  refine ZaB _ _ (.inl ?_);rcases hx with hx|hx
  · exact Zaa (env:=X.env) (k:=.cell) hx (Or.inl (Eq.refl NameKind.cell)) S.nocell
  · exact Zaa (env:=X.env) (k:=.free) hx (Or.inr (Eq.refl NameKind.free)) S.nocell
 cab:=λx c h _=>by cases h
 hd:=I.ok.hd
 frames:=I.ok.frames
 stk := .inl rfl
 exf:=λb hb=>by
  obtain⟨o,e,_⟩:=ho b hb;obtain⟨_,_,_,_,f4,_⟩:=hf b hb;exact⟨Nat.ne_of_lt (Nat.lt_of_lt_of_le (Heap.lt_size e) hC),λx c h=>f4 x c (VY _ [] (S.clos I.ok) (λ_ z=>by cases z) h)⟩
 bs:=I.bs
 bsz:=Nat.le_trans I.ok.bsz I.sz
 noex:=λb o e hb=>by
  obtain⟨_,_,_,f3,_,_⟩:=hf b hb;rcases f3 with z|z
  · exact I.ok.noex b o e z
  · exact absurd (Nat.lt_of_lt_of_le (Heap.lt_size (I.ok.bs b o e).1) z) (Nat.lt_irrefl _)
 exfs:=λb hb z=>by
  obtain⟨_,f1,f2,_,_,_⟩:=hf b hb;exact(List.mem_cons.mp (I.stkSub b z)).elim f1 f2
 funs:=I.stack
 frf:=I.stkFree
theorem Zbz {C:Addr} {fp:List Addr} {s:Shared} {H:Hp} {m:Str->Option Value} (S:CompSc X scope tn cn js) (I:Inv X pins σ H₂ s₂) (hf:∀b∈fp,XA X pins H₂ b)
 (u:Un (frs X.stack) fp H₂ H s₂.heap s.heap) :
 ∀(i:Nat)(x:Str)(v:V),(tn++cn)[i]? = some x->(blk tn.length σ js)[i]? = some (some v)->∃z,RelV v z/\ZlK (compEnvC scope (Xc X.env.cells scope.names []) C X.env) s.heap m x z:=by
 intro i x v e1 e2;unfold blk at e2
 by_cases hi:i<tn.length
 · rw [List.getElem?_append_left (by simpa using hi),List.getElem?_replicate,if_pos hi]at e2
   cases e2
 · have hi':tn.length<=i:=by omega
   rw [List.getElem?_append_right hi']at e1;rw [List.getElem?_append_right (by simpa using hi'),List.length_replicate]at e2;obtain⟨j,hj,hN,hk,hm⟩:=S.cap _ _ e1;unfold XR at e2;rw [List.getElem?_map,hj]at e2;have e3:(σ[j]?).getD none=some v:=Option.some.inj e2
   have e4:σ[j]? = some (some v):=by
    cases q:σ[j]? with
    |none=>rw [q]at e3;cases e3
    |some z=>rw [q]at e3;exact congrArg some e3
   obtain⟨m0,_,hl⟩:=I.loc
   have hv:Vis X.env.scope x:=by
    rcases hk with hk|hk
    · exact .inr (.inl hk)
    · exact .inr (.inr hk)
   obtain⟨z,rz,l⟩:=hl j x v hN e4 hv;refine⟨z,rz,?_⟩
   obtain⟨c,hc,ob,ho,hd⟩:∃c,X.env.cells.lookup x=some c/\s₂.heap.IsCell c (some z):=by
    rcases l with⟨k,_⟩|⟨_,c,hc,q⟩
    · rcases hk with hk|hk
      · rw [hk]at k;cases k
      · rw [hk]at k;cases k
    · exact⟨c,hc,q⟩
   obtain⟨c',hc'⟩:=ZaB (cells:=X.env.cells) (x:=x) scope.names [] (.inl (PySem.mem_of_lookup hm))
   have ec:c'=c:=by
    have:=VY _ [] (S.clos I.ok) (λ_ z=>by cases z) hc';rw [hc]at this;exact(Option.some.inj this).symm
   subst ec;have nf:c'∉fp:=λhb=>(hf c' hb).2.2.2.2.1 x c' hc rfl
   obtain⟨sl,q⟩:=u.any ho (I.freeC x c' hc) nf;exact .inr ⟨Zar hm,c',hc',⟨_,q,hd⟩⟩
theorem Zel(S:CompSc X scope tn cn js):(blk tn.length σ js).length=(tn++cn).length:=by
 unfold blk XR;rw [List.length_append,List.length_append,List.length_replicate,List.length_map,S.len]
theorem Zdx {C:Addr} {fp:List Addr} {xe:Value->Shared->Prop} {s:Shared} {H:Hp} {σ':St} {pins':List (Addr×Obj)} (S:CompSc X scope tn cn js) (I:Inv X pins σ H₂ s₂) (hf:∀b∈fp,XA X pins H₂ b)
 (I':Inv (Qb X scope (tn++cn) C s₂ H₂ fp xe) pins' σ' H s):Inv (Qb X scope (tn++cn) C s₂ H₂ fp xe) pins' (blk tn.length σ js) H s:=by
 obtain⟨m,hn,_⟩:=id I'.loc;exact⟨I'.ok,I'.os,I'.bare,I'.base,⟨m,hn,λi x v e1 e2 _=>Zbz S I hf I'.base i x v e1 e2⟩,I'.cell,I'.free,I'.freeC,I'.pin,I'.hok,Zel S⟩
theorem Zdy {C D:Addr} {fp:List Addr} {xe:Value->Shared->Prop} {h:Heap} {tk:Nat} {ob:Obj} {m:Str->Option Value} (S:CompSc X scope tn cn js) (I:Inv X pins σ H₂ s₂) (hC:s₂.heap.objs.size<=C) (hD:s₂.heap.objs.size<=D) (hDC:D≠C)
 (hf:∀b∈fp,XA X pins H₂ b) (ho:∀b∈fp,∃o,s₂.heap.get? b=some o/\∀v,o.data ≠ .cell v) (k:∀b o,s₂.heap.get? b=some o->h.get? b=some o) (hn:h.Ns C m) (hob:h.get? D=some ob) (hcell:∀v,ob.data ≠ .cell v) :
 Inv (Qb X scope (tn++cn) C s₂ H₂ fp xe) [(D,ob)] (blk tn.length σ js) H₂ { s₂ with heap:=h,toks:=tk }:=by
 have ok:=Zhr (xe:=xe) S I hC hf ho;have u:Un (frs X.stack) fp H₂ H₂ s₂.heap h:=Un.kept k;refine⟨ok,rfl,I.bare,u,⟨m,hn,λi x v e1 e2 _=>Zbz (s:={ s₂ with heap:=h,toks:=tk }) S I hf u i x v e1 e2⟩,λx c e => ?_,I.hok.fresh hC,λx c e => ?_,λp hp => ?_,I.hok.kept k,Zel S⟩
 · obtain⟨v,o,q,d⟩:=I.cell x c (VY _ [] (S.clos I.ok) (λ_ z=>by cases z) e)
   exact⟨v,o,k c o q,d⟩
 · exact I.freeC x c (VY _ [] (S.clos I.ok) (λ_ z=>by cases z) e)
 · have e : p = (D, ob) := by
    have:p∈([]:List (Addr×Obj))++[(D,ob)]:=hp;simpa using this
   subst e;refine⟨hob,I.hok.fresh hD,hDC,λz => ?_,hcell⟩;have z:D∈frs X.stack:=z;rcases List.mem_cons.mp (I.stkSub D z)with e|e
   · exact absurd (Nat.lt_of_lt_of_le I.lt (by rw [<-e];exact hD)) (Nat.lt_irrefl _)
   · exact I.nofs hD e
theorem ZcS {C D:Addr} {fp:List Addr} {xe:Value->Shared->Prop} {s:Shared} {H:Hp} {σ':St} {ys:List V} {its:List Value} {n:Nat} {h':Heap} (S:CompSc X scope tn cn js) (I:Inv X pins σ H₂ s₂) (hC:s₂.heap.objs.size<=C) (hD:s₂.heap.objs.size<=D) (hDC:D≠C)
 (hf:∀b∈fp,XA X pins H₂ b) (I':Inv (Qb X scope (tn++cn) C s₂ H₂ fp xe) [(D,{ cls := .type "list",data := .seq its.toArray n })] σ' H s) (hv:Vals ys its) (hz:ys.length<=sizeLine) (hs:Heap.SameBut C s.heap h') :
 Inv X pins σ (upd H D (.lst ys)) { s with heap:=h' }:=by
 have pd:=I'.pin (D,{ cls := .type "list",data := .seq its.toArray n }) (List.mem_append_right _ List.mem_cons_self);have pd1:s.heap.get? D=some { cls := .type "list",data := .seq its.toArray n }:=pd.1;have pd2:H D=none:=pd.2.1;have hD':h'.get? D=some { cls := .type "list",data := .seq its.toArray n }:=(hs.2 D hDC).trans pd1;have hCf:H C=none:=I'.free;have old:∀b o,s₂.heap.get? b=some o->b≠C/\b≠D:=λb o e=>⟨Nat.ne_of_lt (Nat.lt_of_lt_of_le (Heap.lt_size e) hC),Nat.ne_of_lt (Nat.lt_of_lt_of_le (Heap.lt_size e) hD)⟩
 have u:=I'.base;have u:Un (frs X.stack) fp H₂ H s₂.heap s.heap:=u;refine I.call' (s':={ s with heap:=h' }) (ch:=fp) (H':=upd H D (.lst ys)) I'.os ⟨λb o e n hb hx => ?_,λb o e n hb hx => ?_,λb o e n hx => ?_,λb o e hx => ?_,λb xs e => ?_,λb o xs e => ?_,λb ps e => ?_⟩ (λb o e => ?_) I'.bare (λb hb => ?_)
 · exact(hs.2 b (old b o e).1).trans (u.keep b o e n hb hx)
 · obtain⟨sl,q⟩:=u.slot b o e n hb hx
   exact⟨sl,(hs.2 b (old b o e).1).trans q⟩
 · rw [Zz (old b o e).2]
   exact u.free b o e n hx
 · obtain⟨o',q⟩:=u.there b o e hx
   exact⟨o',(hs.2 b (old b o e).1).trans q⟩
 · have q:=u.tups b xs e
   rw [Zz (Yr q pd2)];exact q
 · have q:=u.frzs b o xs e
   rw [Zz (Yr q pd2)];exact q
 · obtain⟨more,q⟩:=u.tbls b ps e
   exact⟨more,by rw [Zz (Yr q pd2)];exact q⟩
 · by_cases hb:b=D
   · subst hb
     rw [ZO]at e;cases e;exact⟨hz,its,n,hv,hD'⟩
   · rw [Zz hb]at e
     refine(I'.hok b o e).stay (λc v hc q=>(hs.2 c ?_).trans q) (λc q=>by rw [Zz (Yr q pd2)];exact q) λc xs q=>by rw [Zz (Yr q pd2)];exact q
     rintro rfl
     rcases hc with rfl|hc
     · rw [hCf]at e;cases e
     · rw [hCf]at hc;cases hc
 · obtain⟨f0,f1,f2,f3,f4,f5⟩:=hf b hb
   exact⟨f3,f1,f4,f5⟩
end
def PTs(X:Cx)(ifs:List Expr)(t:TT):Prop:=
 ∀(pins:List (Addr×Obj))(s:Shared)(σ:St)(H:Hp)(Q:Bool->Hp->Prop),Inv X pins σ H s->t σ H Q ->
  wpAny (model X.prog X.w) X.A (forIn ifs true λc r=>if r=true then do let ok <-isTrue c X.env (eval c X.env);pure (ForInStep.yield ok)else pure (ForInStep.yield r)) (TP X pins σ Q) X.xe s
def tYes:TT:=λ_ H Q=>Q true H
theorem YX{X:Cx}:PTs X [] tYes:=λ_ _ _ H _ I h=>wpAny_tests_nil ⟨H,I,h⟩
theorem Uy{X:Cx}{c:Expr}{t:TT}(h:PT X c t):PTs X [c] t:=λpins s σ H Q I q=>wpAny_tests_one (h pins s σ H Q I q)
def QP(wi:TI)(g:TG)(tt:TT)(te:TE)(n:Nat)(js:List Nat):TE:=λσ H Q=>wi σ H λJ H1=>
 ∃W:Nat->Nat->List V->Hp->Prop,(∃m,W 0 m [] H1)/\∀i m ys H,W i m ys H ->
  (J.stop i H/\∀p,H p=none->Q (.ref p) (upd H p (.lst ys))) \/
  (J.go i H/\∀x H',J.yld i H x H'->g x (blk n σ js) H' λσ2 H2=>tt σ2 H2 λb H3=>
    if b=true then te σ2 H3 λy H4=>ys.length<sizeLine/\∃m',m'<m/\W (i+1) m' (ys++[y]) H4 else ∃m',m'<m/\W (i+1) m' ys H3)
section
variable{X:Cx}{tg iter elt:Expr}{ifs:List Expr}{scope:Scope}{pos:Pos}{wi:TI}{g:TG}{tt:TT}{te:TE}{tn cn:List Str}{js:List Nat}
abbrev XS(X:Cx)(scope:Scope)(N':List Str)(C:Addr)(s₂:Shared)(H₂:Hp)(fp:List Addr):Cx:=Qb X scope N' C s₂ H₂ fp λ_ _=>False
theorem Qc{α:Type}{M:Model}{A:Around}{m:Sem α}{Q:α->Shared->Prop}{E:Value->Shared->Prop}{s:Shared}(h:wpAny M A m Q (λ_ _=>False) s):wpAny M A m Q E s:=wpAny_mono h (λ_ _ q=>q) λ_ _ z=>z.elim
theorem ZaZ {pins:List (Addr×Obj)} {σ:St} {H₂:Hp} {s₂:Shared} {it:Addr} {fp:List Addr} {tnx:Nat->Heap->Prop} {J:It} {E:Value->Shared->Prop} {RR:Value->Addr->Result->Shared->Prop} {W:Nat->Nat->List V->Hp->Prop} {m0:Nat}
 (hc:X.calm=true) (S:CompSc X scope tn cn js)
 (hg:∀C s₂ H₂ fp,PG (XS X scope (tn++cn) C s₂ H₂ fp) tg g) (ht:∀C s₂ H₂ fp,PTs (XS X scope (tn++cn) C s₂ H₂ fp) ifs tt) (he:∀C s₂ H₂ fp,PE (XS X scope (tn++cn) C s₂ H₂ fp) elt te)
 (I2:Inv X pins σ H₂ s₂) (T:Turn X.prog X.w X.K tg J fp it tnx) (st2:tnx 0 s₂.heap) (f2:∀b∈fp,XA X pins H₂ b) (w0:W 0 m0 [] H₂)
 (turn:∀i m ys H,W i m ys H->(J.stop i H/\∀C D s its n σ',s₂.heap.objs.size<=C->s₂.heap.objs.size<=D->D≠C->Vals ys its->ys.length<=sizeLine ->
   Inv (XS X scope (tn++cn) C s₂ H₂ fp) [(D,{ cls := .type "list",data := .seq its.toArray n })] σ' H s->RR (.ref D) C (.ok .next) s) \/
   (J.go i H/\∀x H',J.yld i H x H'->g x (blk tn.length σ js) H' λσ2 H2=>tt σ2 H2 λb H3=>
     if b=true then te σ2 H3 λy H4=>ys.length<sizeLine/\∃m',m'<m/\W (i+1) m' (ys++[y]) H4 else ∃m',m'<m/\W (i+1) m' ys H3)) :
 wpAny (model X.prog X.w) X.A (newList []) (λacc s₃=>wpAny (model X.prog X.w) X.A (newFunctionEnv scope X.env.globals (Xc X.env.cells scope.names []) [] X.env.qual none .none (some X.env)) (λcenv s₄=>
  codeAny (model X.prog X.w) X.A (.compStart (.ListComp elt [⟨tg,iter,ifs,0⟩] scope pos) 0 (.ref it) acc { cenv with scope:=relabel scope X.env }) (RR acc cenv.locals) s₄) E s₃) E s₂:=by
 refine wpAny_newObj_type (wpAny_newFunctionEnv S.nocell (by intro y hy;simp at hy) (λh₁ hns₁ hsb₁ => ?_) S.kind);dsimp only at hns₁ hsb₁ ⊢;generalize hH2:s₂.heap.push { cls := .type "list",dict:=none,data := .seq ([]:List Value).toArray }=HH at hns₁ hsb₁ ⊢;have hCs:HH.objs.size=s₂.heap.objs.size+1:=by rw [<-hH2,Heap.size_push]
 have hDC:s₂.heap.objs.size≠HH.objs.size:=by rw [hCs];exact Nat.ne_of_lt (Nat.lt_succ_self _)
 have hC:s₂.heap.objs.size<=HH.objs.size:=by rw [hCs];exact Nat.le_succ _
 have hD:s₂.heap.objs.size<=s₂.heap.objs.size:=Nat.le_refl _;have old:∀b o,s₂.heap.get? b=some o->h₁.get? b=some o:=λb o e=>hsb₁.extBut b o (by rw [hCs];exact Nat.ne_of_lt (Nat.lt_succ_of_lt (Heap.lt_size e))) (Heap.get?_push_of_some _ (hH2▸Heap.get?_push_of_some _ e))
 have hacc:h₁.get? s₂.heap.objs.size=some { cls := .type "list",dict:=none,data := .seq ([]:List Value).toArray }:=hsb₁.extBut _ _ hDC (Heap.get?_push_of_some _ (hH2▸Heap.get?_push_size _ rfl));have hob:=T.obj _ _ st2
 have I3:Inv (XS X scope (tn++cn) HH.objs.size s₂ H₂ fp) [(s₂.heap.objs.size,{ cls := .type "list",dict:=none,data := .seq ([]:List Value).toArray })] (blk tn.length σ js) H₂ { s₂ with heap:=h₁,toks:=s₂.toks+([]:List (Str×Value)).length }:=
  Zdy S I2 hC hD hDC f2 hob old hns₁ hacc (λv z=>by cases z)
 have st3:tnx 0 h₁:=T.keep _ _ _ st2 λb hb o e=>old b o e
 generalize hX':XS X scope (tn++cn) HH.objs.size s₂ H₂ fp=X' at I3;generalize hs3:({ s₂ with heap:=h₁,toks:=s₂.toks+([]:List (Str×Value)).length }:Shared)=s3 at I3 ⊢;have st3':tnx 0 s3.heap:=by rw [<-hs3];exact st3
 have stat:∀{pins':List (Addr×Obj)}{H':Hp},(∀b∈fp,H' b=none)->(∀p∈pins',p.1=s₂.heap.objs.size)->∀b∈fp,XA X' pins' H' b:=λ{pins' H'} hn hp b hb=>by
  subst hX';obtain⟨o,e,_⟩:=hob b hb;obtain⟨f0,f1,f2',f3,f4,f5⟩:=f2 b hb;refine⟨hn b hb,Nat.ne_of_lt (Nat.lt_of_lt_of_le (Heap.lt_size e) hC),λz=>(List.mem_cons.mp (I2.stkSub b z)).elim f1 f2',.inl hb,λx c h=>f4 x c (VY _ [] (S.clos I2.ok) (λ_ z=>by cases z) h),λp hpp => ?_⟩
  have:p∈pins':=by
   have q:p∈([]:List (Addr×Obj))++pins':=hpp;simpa using q
  rw [hp p this];exact Nat.ne_of_gt (Heap.lt_size e)
 have loop:codeAny (model X.prog X.w) X.A (.compLoop (.ListComp elt [⟨tg,iter,ifs,0⟩] scope pos) 0 (.ref it) (.ref s₂.heap.objs.size) X'.env) (RR (.ref s₂.heap.objs.size) HH.objs.size) s3:=by
  refine ZbZ (λk s'=>∃i ys its n H',Inv X' [(s₂.heap.objs.size,{ cls := .type "list",data := .seq its n })] (blk tn.length σ js) H' s'/\Vals ys its.toList/\ys.length<=sizeLine/\tnx i s'.heap/\(∀b∈fp,H' b=none)/\W i k ys H') ?_ m0
   ⟨0,[],#[],0,H₂,I3,.nil,Nat.zero_le _,st3',λb hb=>(f2 b hb).1,w0⟩
  rintro k s4 ⟨i,ys,its,n,H4,I4,hv4,hz4,st4,fr4,w4⟩
  have eP:X'.prog=X.prog:=by rw [<-hX'];rfl
  have eW:X'.w=X.w:=by rw [<-hX'];rfl
  have eK:X'.K=X.K:=by rw [<-hX'];rfl
  have eA:X'.A=X.A:=by rw [<-hX'];rfl
  have eC:X'.calm=true:=by rw [<-hX'];exact hc
  have eE:X'.xe=λ_ _=>False:=by rw [<-hX'];rfl
  rcases turn i k ys H4 w4 with⟨stop,qn⟩|⟨go,step⟩
  · have z:=T.done X' eP eW eK eC i _ s4 (blk tn.length σ js) H4 (λ_ _=>False) I4 (stat fr4 (λp hp=>by simp at hp;rw [hp])) st4 stop
    rw [eA]at z;refine Qc (thn z λr s5 ⟨hr,I5⟩ => ?_);subst hr;subst hX';exact qn _ _ s5 its.toList n _ hC hD hDC hv4 hz4 (by simpa using I5)
  · have z:=T.item X' eP eW eK eC i _ s4 (blk tn.length σ js) H4 (λ_ _=>False) I4 (stat fr4 (λp hp=>by simp at hp;rw [hp])) st4 go
    rw [eA]at z;refine Qc (thn z λr s5 ⟨u,hr,h5⟩ => ?_);subst hr;refine Qc (thn h5 λ_ s6 ⟨x,H6,I6,r6,y6,st6,fr6⟩ => ?_);have I6':=I6.pinned (stat fr6 (λp hp=>by simp at hp;rw [hp])) (T.obj _ _ st6);have hg':PG X' tg g:=by rw [<-hX'];exact hg _ _ _ _
    have ht':PTs X' ifs tt:=by rw [<-hX'];exact ht _ _ _ _
    have he':PE X' elt te:=by rw [<-hX'];exact he _ _ _ _
    have z7:=hg' _ s6 _ H6 x u _ I6' r6 (step x H6 y6);rw [eP,eW,eA,eE]at z7;refine Qc (thn z7 λ_ s7 ⟨σ7,H7,I7,q7⟩ => ?_);have z8:=ht' _ s7 σ7 H7 _ I7 q7;rw [eP,eW,eA,eE]at z8;refine Qc (thn z8 λok s8 ⟨H8,I8,q8⟩ => ?_)
    have key:∀{σ9:St}{H9:Hp}{s9:Shared}{its':Array Value}{n':Nat},Inv X' ([(s₂.heap.objs.size,{ cls := .type "list",data := .seq its' n' })]++Vi fp s6.heap) σ9 H9 s9 ->
     Inv X' [(s₂.heap.objs.size,{ cls := .type "list",data := .seq its' n' })] (blk tn.length σ js) H9 s9/\tnx (i+1) s9.heap/\∀b∈fp,H9 b=none:=λ{σ9 H9 s9 its' n'} I9=>by
     refine⟨?_,T.keep _ _ _ st6 λb hb o e=>(I9.pin (b,o) (List.mem_append_right _ (List.mem_append_right _ (Jm hb e)))).1,λb hb => ?_⟩
     · have I9':=I9.unpinned
       subst hX';exact Zdx S I2 f2 I9'
     · obtain⟨o,e,d⟩:=T.obj _ _ st6 b hb
       exact(I9.pin (b,o) (List.mem_append_right _ (List.mem_append_right _ (Jm hb e)))).2.1
    cases ok with
    |false=>
     rw [if_neg Bool.false_ne_true]at q8 ⊢;obtain⟨m',hm,w8⟩:=q8;obtain⟨I9,st9,fr9⟩:=key I8;exact⟨m',hm,i+1,ys,its,n,H8,I9,hv4,hz4,st9,fr9,w8⟩
    |true=>
     rw [if_pos rfl]at q8 ⊢;have z9:=he' _ s8 σ7 H8 _ I8 q8;rw [eP,eW,eA,eE]at z9;refine Qc (thn z9 λv s9 ⟨y,H9,I9,r9,hl9,m',hm,w9⟩ => ?_);have pd:=I9.pin (s₂.heap.objs.size,{ cls := .type "list",data := .seq its n }) (List.mem_append_right _ (List.mem_append_left _ List.mem_cons_self));have hpl:s9.heap.PlainList s₂.heap.objs.size its:=⟨n,pd.1⟩
     have hlen:its.size=ys.length:=by rw [hv4.length];simp
     refine wpAny_list_append_plain (hsz:=by omega) hpl λh10 hl10 hs10 => ?_
     obtain⟨n10,e10⟩:=hl10;have I10:Inv X' (Vi fp s6.heap) σ7 H9 s9:=I9.pins_of λp hp=>I9.pin p (List.mem_append_right _ (List.mem_append_right _ hp))
     have nD:∀b∈fp,b≠s₂.heap.objs.size:=λb hb=>by
      obtain⟨o,e,_⟩:=hob b hb;exact Nat.ne_of_lt (Heap.lt_size e)
     have I11:Inv X' (Vi fp s6.heap) σ7 H9 { s9 with heap:=h10 }:=by
      refine I10.turned (t':=s9.toks) (it:=s₂.heap.objs.size) (λb o hb e=>(hs10.2 b hb).trans e) pd.2.1 pd.2.2.1 ?_ ?_ ?_
      · subst hX';exact .inr (Nat.le_refl _)
      · subst hX'
        intro x c h;obtain⟨v',o',q,_⟩:=I2.cell x c (VY _ [] (S.clos I2.ok) (λ_ z=>by cases z) h);exact Nat.ne_of_lt (Heap.lt_size q)
      · intro p hp
        have hp':p∈Vi fp s6.heap:=by
         subst hX';have q:p∈([]:List (Addr×Obj))++Vi fp s6.heap:=hp;simpa using q
        exact nD _ (Zbs hp').1
     have I12:Inv X' ([(s₂.heap.objs.size,{ cls := .type "list",data := .seq (its.push v) n10 })]++Vi fp s6.heap) σ7 H9 { s9 with heap:=h10 }:=I11.pins_of λp hp=>by
      rcases List.mem_append.mp hp with q|q
      · have e:p=(s₂.heap.objs.size,{ cls := .type "list",data := .seq (its.push v) n10 }):=by simpa using q
        subst e;exact⟨e10,pd.2.1,pd.2.2.1,pd.2.2.2.1,λv z=>by cases z⟩
      · exact I11.pin p (List.mem_append_right _ q)
     obtain⟨J1,J2,J3⟩:=key I12;refine⟨m',hm,i+1,ys++[y],its.push v,n10,H9,J1,?_,?_,J2,J3,w9⟩
     · have:(its.push v).toList=its.toList++[v]:=by simp
       rw [this];exact hv4.append (.cons r9 .nil)
     · rw [List.length_append,List.length_singleton]
       omega
 have eEnv:({ newEnv scope HH.objs.size X.env.globals (Xc X.env.cells scope.names []) X.env.qual none .none (some X.env) builtinsNs with scope:=relabel scope X.env }:Env)=X'.env:=by rw [<-hX'];rfl
 have loop2:=loop;rw [<-eEnv]at loop loop2;exact codeAny_compStart_list loop (T.self X.A 0 s3 _ _ st3' loop2)
theorem Xd (hc:X.calm=true) (S:CompSc X scope tn cn js) (hi:PI X tg iter wi)
 (hg:∀C s₂ H₂ fp,PG (XS X scope (tn++cn) C s₂ H₂ fp) tg g) (ht:∀C s₂ H₂ fp,PTs (XS X scope (tn++cn) C s₂ H₂ fp) ifs tt) (he:∀C s₂ H₂ fp,PE (XS X scope (tn++cn) C s₂ H₂ fp) elt te)
 (hs:∀x,foldedSetIterable iter X.env x=pure x:=by intro _;rfl) :
 PE X (.ListComp elt [⟨tg,iter,ifs,0⟩] scope pos) (QP wi g tt te tn.length js):=by
 intro pins s σ H Q I h;rw [eval_ListComp];refine wpAny_comprehension_free (use:=none) (cl:=Xc X.env.cells scope.names []) rfl hs (Zal (S.clos I.ok)) S.kind S.names (thn (hi pins s σ H _ I h) λv s1 h1=>thn h1 λitv s2 h2 => ?_);obtain⟨it,fp,tnx,J,H2,e,I2,T,st2,f2,W,⟨m0,w0⟩,turn⟩:=h2;subst e;refine ZaZ (RR:=λacc C=>compPost (model X.prog X.w) X.A X.xe none (EP X pins σ Q) acc C) (W:=W) (m0:=m0) hc S hg ht he I2 T st2 f2 w0 λi m ys H w => ?_
 rcases turn i m ys H w with⟨stop,qn⟩|r
 · refine .inl ⟨stop,λC D s its n σ' hC hD hDC hv hz I' => ?_⟩
   obtain⟨m',hn,_⟩:=id I'.loc;refine⟨m',hn,λh' hs' => ?_⟩;have pd:=I'.pin (D,{ cls := .type "list",data := .seq its.toArray n }) (List.mem_append_right _ List.mem_cons_self);exact⟨.ref D,_,ZcS S I2 hC hD hDC f2 I' hv hz hs',rfl,qn D pd.2.1⟩
 · exact .inr r
end
end L2
namespace L2
open PySem PySem.Spec PyProof.Rows
abbrev S(cs:List Nat):V := .str (tx cs)
theorem ZkB{a b:List Nat}:S a=S b ↔ a=b:=by
 constructor
 · intro h
   exact tx_inj.mp (V.str.inj h)
 · rintro rfl;rfl
section
variable{X:Cx}{pos:Pos}
theorem ZdX{x:Str}{j:Nat}(cs:List Nat)(h:x=tx cs):PE X (.Constant (.str x) j pos) (tC (S cs)):=by
 subst h;exact Zjc
def Its(cs:List Nat):It:=⟨λi _=>i<cs.length,λi H v H'=>H'=H/\∃c,cs[i]? = some c/\v=S [c],λi _=>cs.length<=i⟩
theorem Qd(x:Str):strIterType x = "str_ascii_iterator" \/ strIterType x = "str_iterator" := by
 unfold strIterType
 split
 · exact .inl rfl
 · exact .inr rfl
theorem ZfM{P:Program}{w:World}{K:PySem.W.Frag}{tg:Expr}(it:Addr)(cs:List Nat)(t:Tok):Turn P w K tg (Its cs) [it] it (λi h=>h.IsStrIter it (strIterType (tx cs)) (tx cs) t i) where
 mem:=by simp
 obj:=λi h st b hb=>by
  have e:b=it:=by simpa using hb
  subst e;obtain⟨o,e,c,d⟩:=st;exact⟨o,e,λv z=>by rw [d]at z;cases z⟩
 keep:=λi h h' st k=>by
  obtain⟨o,e,r⟩:=st;exact⟨o,k it (by simp) o e,r⟩
 item:=by
  intro X hP hw hK hc i pins s σ H E I hf st hg;subst hP hw hK;obtain⟨f0,f1,f2,f3,f4,f5⟩:=hf it (by simp);have hg:i<cs.length:=hg;have hx:(tx cs).cps[i]? = some cs[i]:=by simp [tx,hg]
  have fin:∀(h':Heap),h'.IsStrIter it (strIterType (tx cs)) (tx cs) t (i+1)->Heap.SameBut it s.heap h' ->
   ∃u,some (Value.str ⟨#[cs[i]]⟩ s.toks)=some u/\wpAny (model X.prog X.w) X.A (letOwnedTupleGo tg (.ref it) u) (λ_ s2=>∃x H',Inv X pins σ H' s2/\RelV x u/\(Its cs).yld i H x H'/\s2.heap.IsStrIter it (strIterType (tx cs)) (tx cs) t (i+1)/\∀b∈[it],H' b=none) E { s with heap:=h',toks:=s.toks+1 }:=λh' st' sb=>by
   have I1:Inv X pins σ H { s with heap:=h',toks:=s.toks+1 }:=I.turned (λb o hb e=>(sb.2 b hb).trans e) f0 f1 f3 f4 f5;obtain⟨o,e,hc',d⟩:=id st';refine⟨_,rfl,Jl (s:={ s with heap:=h',toks:=s.toks+1 }) e hc' d ?_ ⟨S [cs[i]],H,I1,⟨s.toks,rfl⟩,⟨rfl,cs[i],by simp [hg],rfl⟩,st',λb hb=>(hf b hb).1⟩⟩;rcases Qd (tx cs)with z|z<;>rw [z]<;>decide
  rcases Qd (tx cs)with z|z
  · rw [z]at st
    refine wpAny_pyNext_ascii_item st hx λh' st' sb=>fin h' (by rw [z];exact st') sb
  · rw [z]at st
    refine wpAny_pyNext_wide_item st hx λh' st' sb=>fin h' (by rw [z];exact st') sb
 done:=by
  intro X hP hw hK hc i pins s σ H E I hf st hg;subst hP hw hK;obtain⟨f0,f1,f2,f3,f4,f5⟩:=hf it (by simp);have hg:cs.length<=i:=hg;have hx:(tx cs).cps[i]? = none:=by simp [tx];omega
  rcases Qd (tx cs)with z|z
  · rw [z]at st
    exact wpAny_pyNext_ascii_end (I.ok.hd hc) st hx λh' eb=>⟨rfl,I.turned (t':=s.toks) (λb o hb e=>eb b o hb e) f0 f1 f3 f4 f5⟩
  · rw [z]at st
    exact wpAny_pyNext_wide_end (I.ok.hd hc) st hx λh' eb=>⟨rfl,I.turned (t':=s.toks) (λb o hb e=>eb b o hb e) f0 f1 f3 f4 f5⟩
 self:=λ_ i _ _ _ st h=>by
  rcases Qd (tx cs)with z|z
  · rw [z]at st
    exact wpAny_pyIter_striter_ascii st h
  · rw [z]at st
    exact wpAny_pyIter_striter_wide st h
variable{tg:Expr}
def VZ(K:PySem.W.Frag)(tl:TE):TI:=λσ H R=>tl σ H λx H1=>(∃a xs,x = .ref a/\SqL K H1 a xs/\R (Itl K a) H1)\/(∃a xs,x = .ref a/\SqT K H1 a xs/\R (Itt K a) H1)\/∃cs,x=S cs/\R (Its cs) H1
theorem Zjo{l:Expr}{tl:TE}(hl:PE X l tl):PI X tg l (VZ X.K tl):=by
 intro pins s σ H R I h;refine thn (hl pins s σ H _ I h) λv s1 ⟨x,H1,I1,r1,q1⟩ => ?_
 rcases q1 with⟨a,xs,e,hq,q⟩|⟨a,xs,e,hq,q⟩|⟨cs,e,q⟩
 · subst e
   cases r1;obtain⟨its,rv,p,hz⟩:=I1.list hq;refine wpAny_pyIter_list p.isList ?_;refine⟨s1.heap.objs.size,[s1.heap.objs.size],_,_,H1,rfl,I1.kept (t':=s1.toks) λb o e=>Heap.get?_push_of_some _ e,ZeT a _,⟨_,Heap.get?_push_size _ rfl,rfl,rfl⟩,λb hb => ?_,q⟩;have e:b=s1.heap.objs.size:=by simpa using hb
   subst e;exact I1.fpOk (Nat.le_refl _) (I1.hok.fresh (Nat.le_refl _))
 · have hpi:=Zjf (X:=X) (tg:=tg) (l:=l) (tl:=λ_ H Q=>Q (.ref a) H)
   subst e;cases r1;obtain⟨its,rv,p,hz⟩:=I1.tuple hq;refine wpAny_pyIter_tuple (show s1.heap.IsTuple a its.toArray from p) ?_;refine⟨s1.heap.objs.size,[s1.heap.objs.size],_,_,H1,rfl,I1.kept (t':=s1.toks) λb o e=>Heap.get?_push_of_some _ e,ZaX a _,⟨_,Heap.get?_push_size _ rfl,rfl,rfl⟩,λb hb => ?_,q⟩;have e:b=s1.heap.objs.size:=by simpa using hb
   subst e;exact I1.fpOk (Nat.le_refl _) (I1.hok.fresh (Nat.le_refl _))
 · subst e
   obtain⟨t,rfl⟩:=r1;refine wpAny_pyIter_strU ?_;refine⟨s1.heap.objs.size,[s1.heap.objs.size],_,_,H1,rfl,I1.kept (t':=s1.toks) λb o e=>Heap.get?_push_of_some _ e,ZfM _ cs t,⟨_,Heap.get?_push_size _ rfl,rfl,rfl⟩,λb hb => ?_,q⟩;have e:b=s1.heap.objs.size:=by simpa using hb
   subst e;exact I1.fpOk (Nat.le_refl _) (I1.hok.fresh (Nat.le_refl _))
def rAddS:R2:=λx y H Q=>∃a b,x=S a/\y=S b/\a.length+b.length<=sizeLine/\Q (S (a++b)) H
theorem op_addS:OpR X (binaryOp .Add) rAddS:=by
 intro pins s σ H x y v u Q I rx ry h;obtain⟨a,b,rfl,rfl,hz,q⟩:=h;refine Zdn pins s σ H _ _ v u Q I rx ry ⟨tx a,tx b,rfl,rfl,by rw [Vm,Vm];exact hz,?_⟩;rw [Zjn];exact q
def ZkC:R2:=λx y H Q=>rI0 (λi j => .int (i+j)) x y H Q\/rAddS x y H Q\/Zmn x y H Q
def Zkl(neg:Bool):R2:=λx y H Q=>∃c b,x=S [c]/\y=S b/\Q (.bl (neg != decide (c∈b))) H
theorem op_inS:OpR X (compareOp .In) (Zkl false):=by
 intro pins s σ H x y v u Q I rx ry h;obtain⟨c,b,rfl,rfl,q⟩:=h;refine ZeV pins s σ H _ _ v u Q I rx ry ⟨tx [c],tx b,rfl,rfl,?_⟩;have e:=StrLaws.found_one (tx b) c;rw [ZdW]at e;rw [show tx [c]=(⟨#[c]⟩:Str)from rfl,e];simpa using q
theorem op_notInS:OpR X (compareOp .NotIn) (Zkl true):=by
 intro pins s σ H x y v u Q I rx ry h;obtain⟨c,b,rfl,rfl,q⟩:=h;refine ZbT pins s σ H _ _ v u Q I rx ry ⟨tx [c],tx b,rfl,rfl,?_⟩;have e:=StrLaws.found_one (tx b) c;rw [ZdW]at e;rw [show tx [c]=(⟨#[c]⟩:Str)from rfl,e];simpa using q
def Qe(K:PySem.W.Frag)(neg:Bool):R2:=λx y H Q=>Zkl neg x y H Q\/rIn K neg x y H Q
theorem Zjp:OpR X (compareOp .In) (Qe X.K false):=op_inS.or Ze0
theorem Ze4:OpR X (compareOp .NotIn) (Qe X.K true):=op_notInS.or ZbV
def rIxSt:R2:=λx y H Q=>∃a i c,x=S a/\y = .int i/\a.length<=sizeLine/\atI a i=some c/\Q (S [c]) H
theorem Zmp:IxR X rIxSt:=by
 intro value slice pins s σ H x y v u Q I rx ry h hs;obtain⟨a,i,c,rfl,rfl,hz,he,q⟩:=h;exact ix_str value slice pins s σ H _ _ v u Q I rx ry ⟨tx a,i,c,rfl,rfl,by rw [Vm];exact hz,by rw [ZdW];exact he,q⟩ hs
def UT(K:PySem.W.Frag):R2:=λx y H Q=>ZlU K x y H Q\/ZlV K x y H Q\/rIxSt x y H Q
theorem Zmq:IxR X (UT X.K):=ix_list.or (ix_tup.or Zmp)
def rSlS:V->Option Int->Option Int->Hp->VK->Prop:=λx lo hi H Q=>∃a,x=S a/\a.length<=sizeLine/\Q (S (cutL a lo hi)) H
theorem sl_S:SlR X rSlS:=by
 intro pins s σ H x v vl vu lo hi sl Q I rx hs pl pu h;obtain⟨a,rfl,hz,q⟩:=h;obtain⟨t,rfl⟩:=rx;refine⟨"str",_,F.slot_str_getitem.lookup,typeIs_str _ _ _,?_⟩;have fin:∀t' k,EP X pins σ Q (.str (Txt.slice (tx a) lo hi) t') { s with toks:=k }:=λt' k=>⟨S (cutL a lo hi),H,I.tok _,⟨t',by rw [ZfL]⟩,q⟩
 have hle:(Txt.slice (tx a) lo hi).length<=sizeLine:=Nat.le_trans (Txt.slice_le _ _ _) (by rw [Vm];exact hz);cases pl with
 |none=>
  cases pu with
  |none=>exact wpAny_getItem_str_slice (l:=none) (u:=none) (st:=none) hs rfl (post_val_or_str ⟨hle,fin⟩)
  |int j uj=>exact wpAny_getItem_str_slice (l:=none) (u:=some (j,uj)) (st:=none) hs rfl (post_val_or_str ⟨hle,fin⟩)
 |int i ui=>
  cases pu with
  |none=>exact wpAny_getItem_str_slice (l:=some (i,ui)) (u:=none) (st:=none) hs rfl (post_val_or_str ⟨hle,fin⟩)
  |int j uj=>exact wpAny_getItem_str_slice (l:=some (i,ui)) (u:=some (j,uj)) (st:=none) hs rfl (post_val_or_str ⟨hle,fin⟩)
def Zkm(K:PySem.W.Frag):V->Option Int->Option Int->Hp->VK->Prop:=λx lo hi H Q=>rSlS x lo hi H Q\/ZlW K x lo hi H Q\/ZlT K x lo hi H Q
theorem Zmr:SlR X (Zkm X.K):=sl_S.or (sl_list.or Zjj)
def ZgZ(K:PySem.W.Frag):List V->Hp->VK->Prop:=λxs H Q=>(∃a,xs=[S a]/\a.length<=sizeLine/\Q (.int a.length) H)\/∃p ys,xs=[.ref p]/\(SqL K H p ys\/SqT K H p ys)/\Q (.int ys.length) H
theorem Ze5:Ym X (.builtin "len") (ZgZ X.K):=by
 intro pins s σ H xs us Q I rs q;rcases q with⟨a,rfl,hz,q⟩|q
 · exact ZbX pins s σ H _ us Q I rs ⟨tx a,rfl,by rw [Vm];exact hz,by rw [Vm];exact q⟩
 · exact ZbW pins s σ H xs us Q I rs q
theorem Zhs(bs:List Bool):∀(its:List Value),Vals (bs.map V.bl) its->its=bs.map Value.bool:=by
 induction bs with
 |nil=>intro its r;cases r;rfl
 |cons b bs ih=>
  intro its r;cases r with
  |cons r1 r2=>
   rw [ih _ r2];cases r1;rfl
theorem Ze6(bs:List Bool):((List.range bs.length).all λi=>bs.getD i false)=bs.all id:=by
 rw [Bool.eq_iff_iff,List.all_eq_true,List.all_eq_true];constructor
 · intro h b hb
   obtain⟨i,hi⟩:=List.getElem?_of_mem hb;have hl:i<bs.length:=(List.getElem?_eq_some_iff.mp hi).1;have:=h i (List.mem_range.mpr hl);rw [List.getD_eq_getElem?_getD,hi]at this;exact this
 · intro h i hi
   have hl:=List.mem_range.mp hi;have:=h bs[i] (List.getElem_mem hl);rw [List.getD_eq_getElem?_getD,List.getElem?_eq_getElem hl];exact this
def Zg0(K:PySem.W.Frag)(f:List Bool->Bool):List V->Hp->VK->Prop:=λxs H Q=>∃p bs,xs=[.ref p]/\SqL K H p (bs.map V.bl)/\Q (.bl (f bs)) H
theorem Zdz {pins:List (Addr×Obj)} {σ:St} {H:Hp} {s:Shared} {p:Addr} {bs:List Bool} {Q:Value->Shared->Prop} {E:Value->Shared->Prop} {f:(Nat->Bool)->Bool} (hc:X.calm=true) (I:Inv X pins σ H s) (hq:SqL X.K H p (bs.map V.bl))
 (q:∀h' tk,(∀b o,s.heap.get? b=some o->h'.get? b=some o)->Q (.bool (f λi=>bs.getD i false)) { s with heap:=h',toks:=tk }) :
 wpAny (model X.prog X.w) X.A.in1 (pyIter (.ref p)) (λit s₂=>∃I fp wr n P St tr,it = .ref I/\Walks X.prog X.w X.A.in1 I fp wr n P St/\St 0 s₂.heap/\TruthOf X.prog X.w X.A.in1 P tr /\
  n=bs.length/\tr=(λi=>bs.getD i false)/\∀h' tk,(∀b o,b∉wr->s₂.heap.get? b=some o->h'.get? b=some o)->Q (.bool (f tr)) { s₂ with heap:=h',toks:=tk }) E s:=by
 obtain⟨its,rv,pl,hz⟩:=I.list hq;have e:=Zhs bs its rv;subst e;refine wpAny_pyIter_list pl.isList ?_;have hlt:p<s.heap.objs.size:=pl.lt;have hh:X.A.in1.handled=none:=I.ok.hd hc;refine⟨s.heap.objs.size,_,_,_,_,_,λi=>bs.getD i false,rfl,Walks.list hh _ p (Nat.ne_of_lt hlt) (bs.map Value.bool).toArray,⟨⟨_,Heap.get?_push_size _ rfl,rfl,rfl⟩,(pl.keeps λb o e=>Heap.get?_push_of_some _ e).isList⟩,?_,by simp,rfl,λh' tk k => ?_⟩
 · intro i v s' Q' E' hv hq'
   have:v=Value.bool (bs.getD i false):=by
    have hv':(bs.map Value.bool)[i]? = some v:=by simpa using hv
    rw [List.getElem?_map]at hv';rw [List.getD_eq_getElem?_getD];cases e:bs[i]? with
    |none=>rw [e]at hv';cases hv'
    |some b=>rw [e]at hv';exact(Option.some.inj hv').symm
   subst this;exact wpAny_truthy_bool hq'
 · refine q h' tk λb o e=>k b o (λz => ?_) (Heap.get?_push_of_some _ e)
   have h1:=Heap.lt_size e;have h2:b=s.heap.objs.size:=by simpa using z
   rw [h2]at h1;exact Nat.lt_irrefl _ h1
theorem Ze7(hc:X.calm=true):Ym X (.builtin "all") (Zg0 X.K λbs=>bs.all id):=by
 intro pins s σ H xs us Q I rs h;obtain⟨p,bs,rfl,hq,q⟩:=h;obtain⟨u,rfl,rx⟩:=Y2 rs;cases rx;have z:=Zdz (f:=λtr=>(List.range bs.length).all tr) (Q:=EP X pins σ Q) (E:=X.xe) hc I hq λh' tk k=>⟨.bl _,H,I.kept k,rfl,by rw [Ze6];exact q⟩
 refine call_all_walk (wpAny_mono z (λit s₂ z2 => ?_) λ_ _ z=>z);obtain⟨I',fp,wr,n,P,St,tr,e1,W,st,ht,en,et,hq'⟩:=z2;exact⟨I',fp,wr,n,P,St,tr,e1,W,st,ht,λh' tk k=>by rw [en];exact hq' h' tk k⟩
theorem ZfN:Ym X (.builtin "isinstance") (λxs H Q=>∃x c cv t b,xs=[x,c]/\(∀v,RelV c v->v=cv)/\TyOf X.K H x t/\kitOne X.K t cv=some b/\Q (.bl b) H):=by
 intro pins s σ H xs us Q I rs h;obtain⟨x,c,cv,t,b,rfl,hc,ty,e,q⟩:=h;obtain⟨u,w',rfl,rx,rc⟩:=Ziv rs;have ec:=hc _ rc;subst ec;exact ZeY I rx ty e λtk=>⟨.bl b,H,I.tok tk,rfl,q⟩
end
section
variable{X:Cx}{K:PySem.W.Frag}{pos:Pos}{tg:Expr}
theorem ZkD(hK:X.K=K:=by rfl):OpR X (compareOp .In) (Qe K false):=hK▸Zjp
theorem ZcT(hK:X.K=K:=by rfl):OpR X (compareOp .NotIn) (Qe K true):=hK▸Ze4
theorem Zo(hK:X.K=K:=by rfl):IxR X (UT K):=hK▸Zmq
theorem ZlX(hK:X.K=K:=by rfl):SlR X (Zkm K):=hK▸Zmr
theorem YL(hK:X.K=K:=by rfl):Ym X (.builtin "len") (ZgZ K):=hK▸Ze5
theorem ZkE(hc:X.calm=true:=by rfl)(hK:X.K=K:=by rfl):Ym X (.builtin "all") (Zg0 K λbs=>bs.all id):=hK▸Ze7 hc
def Zms(K:PySem.W.Frag):List V->Hp->VK->Prop:=λxs H Q=>∃x c cv t b,xs=[x,c]/\(∀v,RelV c v->v=cv)/\TyOf K H x t/\kitOne K t cv=some b/\Q (.bl b) H
theorem YG{l:Expr}{tl:TE}(hl:PE X l tl)(hK:X.K=K:=by rfl):PI X tg l (VZ K tl):=hK▸Zjo hl
theorem YH{e:Expr}{ta:TE}{f:Str}(he:PE X e ta)(hb:attributeBase e f X.env (eval e X.env)=eval e X.env:=by rfl)(hK:X.K=K:=by rfl):PE X (.Attribute e f pos) (Zkh K ta f):=hK▸Zjg he hb
def Zgx(K:PySem.W.Frag):List V->Hp->VK->Prop:=λxs H Q=>∃p ys,xs=[.ref p]/\((SqL K H p ys/\∀l,H l=none->Q (.ref l) (upd H l (.tup ys)))\/(SqT K H p ys/\Q (.ref p) H))
def Zjq(K:PySem.W.Frag):List V->Hp->VK->Prop:=λxs H Q=>∃p ys,xs=[.ref p]/\(SqL K H p ys\/SqT K H p ys)/\∀l,H l=none->Q (.ref l) (upd H l (.lst ys))
theorem XC(hK:X.K=K:=by rfl):Ym X (.type "tuple") (Zgx K):=hK▸Zbp
theorem X8 {o e:Expr} {es:List Expr} {to:TE} {t:TA} {name:Str} {apos cpos:Pos} {T id:String} {r:V->List V->Hp->VK->Prop} (pa:PlainAttrs T) (slot:Slot T name id) (hty:typeOf (.builtin id)=pure (.type "method_descriptor")) (hm:MtR X id r) (ho:PE X o to) (ha:PA X (e::es) t)
 (hbase:attributeBase o name X.env (eval o X.env)=eval o X.env:=by rfl)
 (hfew:((backTo cpos (starEach (e::es) X.env)).all (λx => !x.1)&&(backToKw cpos (keywordEach [] X.env)).all (λx=>x.1.isSome)
   && decide ((e::es).length+([]:List Keyword).length+(if([]:List Keyword).isEmpty then 0 else 1)<30))=true:=by rfl)
 (hline:(apos.endLine == cpos.line)=true:=by rfl) (hs:starEach (e::es) X.env=(false,eval e X.env)::starEach es X.env:=by rfl) (hplain:(backTo cpos (starEach es X.env)).any (·.1)=false:=by rfl) (hK:X.K=K:=by rfl) :
 PE X (.Call (.Attribute o name apos) (e::es) [] cpos) (tBM K T r to t):=hK▸Zkz pa slot hty hm ho ha hbase hfew hline hs hplain
theorem Qf {es:List Expr} {k:Nat} {t:TGs} {n:Nat} (h:PGs X es t) (hc:X.calm=true:=by rfl)
 (hn:(assignEach es X.env).length=n:=by rfl) (hst:(assignEach es X.env).findIdx? (·.1)=none:=by rfl) (hK:X.K=K:=by rfl):PG X (.Tuple es k pos) (Zke K n t):=hK▸Zje hc h hn hst
end
end L2
namespace L2
open PySem PySem.Spec PyProof.Rows
theorem ZfO{H:Hp}{q:Addr}{o:HO}(h:H q=none):Same H (upd H q o):=λb u e=>by
 rw [Zz (Yr e h)];exact e
structure Walk(J:It)(xs:List V)(H:Hp):Prop where
 go:∀i,i<xs.length->J.go i H
 yld:∀(i:Nat)v H',i<xs.length->J.yld i H v H'->H'=H/\xs[i]? = some v
 stop:∀i,xs.length<=i->J.stop i H
end L2
namespace L2
open PySem PySem.Spec PyProof.Rows
section
variable{X:Cx}{tg:Expr}
end
end L2
namespace L2
open PySem PySem.Spec PyProof.Rows
def Zkn(n0:Nat)(cs:List Nat):It:=⟨λi _=>i<cs.length,λi H v H'=>∃c p,cs[i]? = some c/\H p=none/\v = .ref p/\H'=upd H p (.tup [.int ((n0+i:Nat):Int),S [c]]),λi _=>cs.length<=i⟩
theorem ZbA{prog:Program}{w:World}{A:Around}(hh:A.handled=none)(it:Addr)(cs:List Nat)(t:Tok)(n0:Nat) :
 Draws prog w A it [it] (n0+cs.length) (λi v=>∃j c u,i=n0+j/\cs[j]? = some c/\v = .str ⟨#[c]⟩ u) (λi h=>∃j,i=n0+j/\h.IsStrIter it (strIterType (tx cs)) (tx cs) t j) where
 live:=λi h ⟨j,_,o,ho,_⟩=>⟨o,ho⟩
 frame:=λi h h' ⟨j,e,o,ho,r⟩ hk=>⟨j,e,o,hk it (by simp) o ho,r⟩
 item:=λi s Q E hi st hQ=>by
  obtain⟨j,rfl,st⟩:=st;have hj:j<cs.length:=by omega
  have hx:(tx cs).cps[j]? = some cs[j]:=by simp [tx,hj]
  rcases Qd (tx cs)with z|z
  · rw [z]at st
    refine wpAny_nextOf_ascii_item st hx λh' st' sb => ?_
    exact hQ _ h' (s.toks+1) ⟨j,_,_,rfl,by simp [hj],rfl⟩ ⟨j+1,by omega,by rw [z];exact st'⟩ sb
  · rw [z]at st
    refine wpAny_nextOf_wide_item st hx λh' st' sb => ?_
    exact hQ _ h' (s.toks+1) ⟨j,_,_,rfl,by simp [hj],rfl⟩ ⟨j+1,by omega,by rw [z];exact st'⟩ sb
 done:=λs Q E st hE=>by
  obtain⟨j,e,st⟩:=st;have hj:j=cs.length:=by omega
  subst hj;have hx:(tx cs).cps[cs.length]? = none:=by simp [tx]
  rcases Qd (tx cs)with z|z
  · rw [z]at st
    exact wpAny_nextOf_ascii_end hh st hx hE
  · rw [z]at st
    exact wpAny_nextOf_wide_end hh st hx hE
theorem ZdA{P:Program}{w:World}{K:PySem.W.Frag}{elts:List Expr}{x1:Nat}{tpos:Pos}(e it:Addr)(hne:e≠it)(n0:Nat)(cs:List Nat)(t:Tok) :
 Turn P w K (.Tuple elts x1 tpos) (Zkn n0 cs) [e,it] e (λi h=>(i<=cs.length/\∃old,IsEnum h e it ((n0+i:Nat):Int) old)/\h.IsStrIter it (strIterType (tx cs)) (tx cs) t i) where
 mem:=by simp
 obj:=λi h st b hb=>by
  obtain⟨⟨_,old,he⟩,o,ho,hc,hd⟩:=st;simp at hb;rcases hb with rfl|rfl
  · exact ⟨_, he, fun v z => by
     have z':Data.fields _=Data.cell v:=z;cases z'⟩
  · exact⟨o,ho,λv z=>by rw [hd]at z;cases z⟩
 keep:=λi h h' st k=>by
  obtain⟨⟨hi,old,he⟩,o,ho,r⟩:=st;exact⟨⟨hi,old,k e (by simp) _ he⟩,o,k it (by simp) o ho,r⟩
 item:=by
  intro X hP hw hK hc i pins s σ H E I hf st hg;subst hP hw hK;obtain⟨⟨_,old,he⟩,st⟩:=st;have hg:i<cs.length:=hg;have f:=hf e (by simp);have g:=hf it (by simp);obtain⟨e0,e1,e2,e3,e4,e5⟩:=f;obtain⟨f0,f1,f2,f3,f4,f5⟩:=g;have D:=ZbA (prog:=X.prog) (w:=X.w) (A:=X.A.in1) (I.ok.hd hc) it cs t n0;refine wpAny_pyNext_enum_itemD D he ⟨i,rfl,st⟩ (by omega) hne (by simp [hne]) λx h' tk hP ho st' hT hsz hk => ?_
  obtain⟨j,c,u,ej,hcx,rfl⟩:=hP;have ej':j=i:=by omega
  subst ej';refine⟨_,rfl,wpAny_letOwnedTupleGo_enum ho λh2 he2 hs2 => ?_⟩;have hs2:Heap.SameBut e h' h2:=hs2;have hTl:e<s.heap.objs.size:=Heap.lt_size he;obtain⟨j',ej2,st''⟩:=st';have ej3:j'=j+1:=by omega
  subst ej3;have hT2:h2.get? s.heap.objs.size=some { cls := .type "tuple",data := .seq #[.int ((n0+j:Nat):Int) tk,.str ⟨#[c]⟩ u] }:=(hs2.2 _ (Nat.ne_of_gt hTl)).trans hT;have k2:∀b o,b≠e->b≠it->s.heap.get? b=some o->h2.get? b=some o:=λb o hb hb' q=>(hs2.2 b hb).trans (hk b o hb hb' q)
  have hTn:H s.heap.objs.size=none:=I.hok.fresh (Nat.le_refl _);have neT:∀b o,s.heap.get? b=some o->b≠s.heap.objs.size:=λb o q=>Nat.ne_of_lt (Heap.lt_size q)
  have I2:Inv X pins σ (upd H s.heap.objs.size (.tup [.int ((n0+j:Nat):Int),S [c]])) { s with heap:=h2,toks:=tk+1 }:=by
   refine I.step (g':=s.gens) (d':=s.drawn) (ch:=[e,it]) (λb hb => ?_) (λb o _ _ hcb q _ => ?_) (λb o _ _ hcb q _ => ?_) (λb o hcb q n => ?_) (λb o hcb q => ?_) (λb xs q => ?_) (λb o v q => ?_) (λb ps q => ?_) (λm hm => ?_) (λb o q => ?_) I.bare
   · simp at hb
     rcases hb with rfl|rfl
     · exact⟨e3,e1,e4,e5⟩
     · exact⟨f3,f1,f4,f5⟩
   · simp at hcb
     exact k2 b o hcb.1 hcb.2 q
   · simp at hcb
     exact⟨o.slots,k2 b o hcb.1 hcb.2 q⟩
   · rw [Zz (neT b o q)]
     exact n
   · simp at hcb
     exact⟨o,k2 b o hcb.1 hcb.2 q⟩
   · rw [Zz (Yr q hTn)]
     exact q
   · rw [Zz (Yr q hTn)]
     exact q
   · exact⟨#[],by rw [Zz (Yr q hTn),q];simp⟩
   · obtain⟨o,es,ep,q,r⟩:=hm
     exact⟨o,es,ep,k2 _ o (Ne.symm e1) (Ne.symm f1) q,r⟩
   · by_cases hb:b=s.heap.objs.size
     · subst hb
       rw [ZO]at q;cases q;refine⟨by show 2<=sizeLine;decide,[.int ((n0+j:Nat):Int) tk,.str ⟨#[c]⟩ u],.cons ⟨_,rfl⟩ (.cons ⟨_,rfl⟩ .nil),?_⟩;exact⟨_,hT2,rfl,⟨_,rfl⟩,rfl⟩
     · rw [Zz hb]at q
       have nn:∀(b:Addr)(o:HO),H b=some o->b≠e/\b≠it:=λb o q=>⟨λz=>(by rw [z,e0]at q;cases q),λz=>(by rw [z,f0]at q;cases q)⟩
       refine(I.hok b o q).stay (λd v hd q' => ?_) (λd q'=>by rw [Zz (Yr q' hTn)];exact q') λd xs q'=>by rw [Zz (Yr q' hTn)];exact q'
       rcases hd with rfl|hd
       · exact k2 d v (nn d o q).1 (nn d o q).2 q'
       · exact k2 d v (nn d _ hd).1 (nn d _ hd).2 q'
  have he3:IsEnum h2 e it ((n0+(j+1):Nat):Int) (.str ⟨#[c]⟩ u):=by
   have:((n0+(j+1):Nat):Int)=((n0+j:Nat):Int)+1:=by push_cast;omega
   rw [this];exact he2
  refine⟨.ref s.heap.objs.size,_,I2,rfl,⟨c,s.heap.objs.size,hcx,hTn,rfl,rfl⟩,⟨⟨hg,_,he3⟩,?_⟩,λb hb => ?_⟩
  · obtain⟨o,ho',r⟩:=st''
    exact⟨o,(hs2.2 it (Ne.symm hne)).trans ho',r⟩
  · simp at hb
    rcases hb with rfl|rfl
    · rw [Zz (Nat.ne_of_lt hTl)];exact e0
    · obtain⟨o,ho',_⟩:=st
      rw [Zz (neT _ o ho')];exact f0
 done:=by
  intro X hP hw hK hc i pins s σ H E I hf st hg;subst hP hw hK;obtain⟨⟨hi,old,he⟩,st⟩:=st;have hg:cs.length<=i:=hg;have ei:i=cs.length:=by omega
  subst ei;obtain⟨f0,f1,f2,f3,f4,f5⟩:=hf it (by simp);have D:=ZbA (prog:=X.prog) (w:=X.w) (A:=X.A.in1) (I.ok.hd hc) it cs t n0;exact wpAny_pyNext_enum_endD D he ⟨cs.length,rfl,st⟩ λh' eb=>⟨rfl,I.turned (t':=s.toks) (λb o hb q=>eb b o hb q) f0 f1 f3 f4 f5⟩
 self:=λ_ _ _ _ _ st h=>by
  obtain⟨⟨_,old,he⟩,_⟩:=st;exact wpAny_pyIter_enum he h
section
variable{X:Cx}{elts:List Expr}{x1:Nat}{tpos:Pos}
end
end L2
namespace L2
open PySem PySem.Spec PyProof.Rows
section
variable{κ:Type} [DecidableEq κ]
def Xr(kvs:List (κ×V))(k:κ):Option V:=(kvs.find? λkv=>decide (kv.1=k)).map (·.2)
def YY(kvs:List (κ×V))(k:κ)(v:V):List (κ×V):=
 if(kvs.any λkv=>decide (kv.1=k))=true then kvs.map (λkv=>if kv.1=k then(kv.1,v)else kv)else kvs++[(k,v)]
theorem Js{p:κ×V}{r:List (κ×V)}{k:κ}(e:p.1=k):Xr (p::r) k=some p.2:=by simp [Xr,List.find?_cons,e]
theorem Jt{p:κ×V}{r:List (κ×V)}{k:κ}(e:¬p.1=k):Xr (p::r) k=Xr r k:=by simp [Xr,List.find?_cons,e]
theorem Zbb(k:κ):∀kvs:List (κ×V),(kvs.any λkv=>decide (kv.1=k))=(Xr kvs k).isSome
 | []=>rfl
 |p::r=>by
  rw [List.any_cons]
  by_cases e:p.1=k
  · simp only [Js e,decide_eq_true e,Bool.true_or,Option.isSome_some]
  · rw [Jt e,decide_eq_false e,Bool.false_or];exact Zbb k r
theorem Zag(kvs:List (κ×V))(k:κ)(v:V):(YY kvs k v).length<=kvs.length+1:=by
 unfold YY
 split
 · rw [List.length_map];omega
 · rw [List.length_append,List.length_cons,List.length_nil];omega
theorem RelO.isSome_eq{o:Option V}{u:Option Value}(r:RelO o u):o.isSome=u.isSome:=by
 cases o with
 |none=>cases u with
  |none=>rfl
  |some _=>exact(show False from r).elim
 |some _=>cases u with
  |none=>exact(show False from r).elim
  |some _=>rfl
theorem KV.val{kvs:List (κ×V)}{vs:List (κ×Value)}(r:KV kvs vs)(k:κ):RelO (Xr kvs k) (valueAt vs k):=by
 unfold KV at r
 induction r with
 |nil=>exact True.intro
 | @cons p q ps qs h t ih=>
  obtain⟨h1,h2⟩:=h
  by_cases e:p.1=k
  · have e':q.1=k:=h1.symm.trans e
    have b:valueAt (q::qs) k=some q.2:=by simp [valueAt,List.find?_cons,e']
    rw [Js e,b];exact h2
  · have e':¬q.1=k:=λz=>e (h1.trans z)
    have b:valueAt (q::qs) k=valueAt qs k:=by simp [valueAt,List.find?_cons,e']
    rw [Jt e,b];exact ih
theorem KV.any{kvs:List (κ×V)}{vs:List (κ×Value)}(r:KV kvs vs)(k:κ):(kvs.any λkv=>decide (kv.1=k))=vs.any λkv=>decide (kv.1=k):=by
 unfold KV at r
 induction r with
 |nil=>rfl
 |cons h t ih=>rw [List.any_cons,List.any_cons,ih,h.1]
theorem KV.repl{kvs:List (κ×V)}{vs:List (κ×Value)}(r:KV kvs vs)(k:κ){y:V}{u:Value}(ry:RelV y u) :
 KV (kvs.map λkv=>if kv.1=k then(kv.1,y)else kv) (vs.map λkv=>if kv.1=k then(kv.1,u)else kv):=by
 unfold KV at r ⊢
 induction r with
 |nil=>exact .nil
 | @cons p q ps qs h t ih=>
  rw [List.map_cons,List.map_cons];refine .cons ?_ ih;obtain⟨h1,h2⟩:=h
  by_cases e:p.1=k
  · rw [if_pos e,if_pos (h1.symm.trans e)];exact⟨h1,ry⟩
  · rw [if_neg e,if_neg (λz=>e (h1.trans z))];exact⟨h1,h2⟩
theorem KV.put{kvs:List (κ×V)}{vs:List (κ×Value)}(r:KV kvs vs)(k:κ){y:V}{u:Value}(ry:RelV y u):KV (YY kvs k y) (stored vs k u):=by
 unfold YY stored;rw [r.any k]
 by_cases e:(vs.any λkv=>decide (kv.1=k))=true
 · rw [if_pos e,if_pos e];exact r.repl k ry
 · rw [if_neg e,if_neg e];exact Paired.snoc r ⟨rfl,ry⟩
theorem KV.length{kvs:List (κ×V)}{vs:List (κ×Value)}(r:KV kvs vs):kvs.length=vs.length:=Paired.length r
end
theorem Qg{P:Program}{w:World}{k:Key}{u:Value}(r:RelV (kV k) u):(Xi P w).is k u=true:=by
 cases k with
 |inl i=>obtain⟨t,e⟩:=(show ∃t,u=Value.int i t from r);subst e;exact Zcq P w i t
 |inr x=>obtain⟨t,e⟩:=(show ∃t,u=Value.str x t from r);subst e;exact Zcr P w x t
theorem ZbB{P:Program}{w:World}:∀{ks:List Key}{us:List Value},Vals (ks.map kV) us->ItemsAre (Xi P w) ks us
 | [],_,r=>by rw [List.map_nil]at r;cases r;exact .nil
 |k::ks,_,r=>by
  rw [List.map_cons]at r;cases r with
  |cons h t=>exact .cons (Qg h) (ZbB t)
abbrev KT(H:Hp):List (List Key×V)->List (List Key×Addr×Value)->Prop:=Paired λp q=>p.1=q.1/\H q.2.1=some (.tup (p.1.map kV))/\RelV p.2 q.2.2
theorem KT.val{H:Hp}{kvs:List (List Key×V)}{xs:List (List Key×Addr×Value)}(r:KT H kvs xs)(k:List Key):RelO (Xr kvs k) ((atKey xs k).map (·.2)):=by
 induction r with
 |nil=>exact True.intro
 | @cons p q ps qs h t ih=>
  obtain⟨h1,_,h2⟩:=h
  by_cases e:p.1=k
  · have e':q.1=k:=h1.symm.trans e
    have b:atKey (q::qs) k=some q.2:=by simp [atKey,List.find?_cons,e']
    rw [Js e,b];exact h2
  · have e':¬q.1=k:=λz=>e (h1.trans z)
    have b:atKey (q::qs) k=atKey qs k:=by simp [atKey,List.find?_cons,e']
    rw [Jt e,b];exact ih
theorem KT.repl{H:Hp}{kvs:List (List Key×V)}{xs:List (List Key×Addr×Value)}(r:KT H kvs xs)(k:List Key){y:V}{u:Value}(ry:RelV y u) :
 KT H (kvs.map λkv=>if kv.1=k then(kv.1,y)else kv) (xs.map (putAt k u)):=by
 induction r with
 |nil=>exact .nil
 | @cons p q ps qs h t ih=>
  rw [List.map_cons,List.map_cons];refine .cons ?_ ih;obtain⟨h1,h2,h3⟩:=h;unfold putAt
  by_cases e:p.1=k
  · rw [if_pos e,if_pos (h1.symm.trans e)];exact⟨h1,h2,ry⟩
  · rw [if_neg e,if_neg (λz=>e (h1.trans z))];exact⟨h1,h2,h3⟩
theorem KT.put{H:Hp}{kvs:List (List Key×V)}{xs:List (List Key×Addr×Value)}(r:KT H kvs xs)(k:List Key){b:Addr}{y:V}{u:Value}(hb:H b=some (.tup (k.map kV)))(ry:RelV y u) :
 KT H (YY kvs k y) (storedH xs k b u):=by
 have e:(kvs.any λkv=>decide (kv.1=k))=(atKey xs k).isSome:=by
  rw [Zbb,(r.val k).isSome_eq,Option.isSome_map]
 unfold YY storedH;rw [e]
 by_cases q:(atKey xs k).isSome=true
 · rw [if_pos q,if_pos q];exact r.repl k ry
 · rw [if_neg q,if_neg q];exact Paired.snoc r ⟨rfl,hb,ry⟩
theorem KT.keeps{H H':Hp}{kvs:List (List Key×V)}{xs:List (List Key×Addr×Value)}(r:KT H kvs xs)(ht:∀b ys,H b=some (.tup ys)->H' b=some (.tup ys)):KT H' kvs xs:=
 Paired.mapP r λ_ _ z=>⟨z.1,ht _ _ z.2.1,z.2.2⟩
section
variable{P:Program}{w:World}{H:Hp}{h:Heap}{a:Addr}
theorem ZiA{u:HO}(ok:HOk P w H h)(e:Rd H a u):ObjOk P w H h a u:=e.ok ok
theorem Qh{kvs:List (Key×V)}(ok:HOk P w H h)(e:Rd H a (.dK kvs)):kvs.length<=sizeLine/\(a == sysModules)=false/\∃vs,KV kvs vs/\h.DictOf (Xi P w) a vs:=
 show ObjOk P w H h a (.dK kvs)from ZiA ok e
theorem ZiB{kvs:List (Key×V)}(ok:HOk P w H h)(e:H a=some (.dK kvs)):kvs.length<=sizeLine/\(a == sysModules)=false/\∃vs,KV kvs vs/\h.DictOf (Xi P w) a vs:=Qh ok (.inl e)
theorem QQ{ks:List Key}(ok:HOk P w H h)(e:H a=some (.tup (ks.map kV))):(tupleKind (Xi P w)).is h ks a:=by
 obtain⟨_,its,r,o,h1,h2,⟨n,h3⟩,_⟩:=(show ObjOk P w H h a (.tup (ks.map kV))from ok a _ e)
 exact⟨o,its.toArray,n,h1,h2,h3,by simpa using ZbB r⟩
theorem QR{kvs:List (List Key×V)}(ok:HOk P w H h)(e:Rd H a (.dT kvs)):kvs.length<=sizeLine/\(a == sysModules)=false /\
 ∃xs,KT H kvs xs/\h.DictOfH (tupleKind (Xi P w)) a xs:=by
 obtain⟨z,y,xs,r,o,es,ep,h1,h2,h3,h4,h5⟩:=(show ObjOk P w H h a (.dT kvs)from ZiA ok e)
 refine⟨z,y,xs,r,o,es,ep,h1,h2,h3,h4,λx hx => ?_,h5⟩
 have all:∀{l:List (List Key×V)}{m:List (List Key×Addr×Value)},KT H l m->∀x∈m,(tupleKind (Xi P w)).is h x.1 x.2.1:=by
  intro l m q
  induction q with
  |nil=>intro x hx;exact nomatch hx
  | @cons p q ps qs hq t ih=>
   intro x hx;rcases List.mem_cons.mp hx with e|hx
   · subst e
     exact QQ ok (by rw [<-hq.1];exact hq.2.1)
   · exact ih x hx
 exact all r x hx
theorem ZkF{kvs:List (List Key×V)}(ok:HOk P w H h)(e:H a=some (.dT kvs)):kvs.length<=sizeLine/\(a == sysModules)=false /\
 ∃xs,KT H kvs xs/\h.DictOfH (tupleKind (Xi P w)) a xs:=QR ok (.inl e)
end
def DGet(H:Hp)(a:Addr)(y:V)(r:Option V):Prop:=
 (∃kvs k,Rd H a (.dK kvs)/\y=kV k/\r=Xr kvs k)\/∃kvs k b,Rd H a (.dT kvs)/\y = .ref b/\H b=some (.tup (k.map kV))/\r=Xr kvs k
def DPut(H:Hp)(a:Addr)(y v:V)(H':Hp):Prop:=
 (∃kvs k,H a=some (.dK kvs)/\y=kV k/\kvs.length<sizeLine/\H'=upd H a (.dK (YY kvs k v))) \/
 ∃kvs k b,H a=some (.dT kvs)/\y = .ref b/\H b=some (.tup (k.map kV))/\kvs.length<sizeLine/\H'=upd H a (.dT (YY kvs k v))
theorem DGet.k{H:Hp}{a:Addr}{kvs:List (Key×V)}{k:Key}(e:H a=some (.dK kvs)):DGet H a (kV k) (Xr kvs k) := .inl ⟨kvs,k,.inl e,rfl,rfl⟩
theorem DGet.t{H:Hp}{a b:Addr}{kvs:List (List Key×V)}{k:List Key}(e:H a=some (.dT kvs))(eb:H b=some (.tup (k.map kV))):DGet H a (.ref b) (Xr kvs k) := .inr ⟨kvs,k,b,.inl e,rfl,eb,rfl⟩
theorem DPut.k{H:Hp}{a:Addr}{kvs:List (Key×V)}{k:Key}{v:V}(e:H a=some (.dK kvs))(hl:kvs.length<sizeLine):DPut H a (kV k) v (upd H a (.dK (YY kvs k v))) := .inl ⟨kvs,k,e,rfl,hl,rfl⟩
theorem DPut.t{H:Hp}{a b:Addr}{kvs:List (List Key×V)}{k:List Key}{v:V}(e:H a=some (.dT kvs))(eb:H b=some (.tup (k.map kV)))(hl:kvs.length<sizeLine) :
 DPut H a (.ref b) v (upd H a (.dT (YY kvs k v))) := .inr ⟨kvs,k,b,e,rfl,eb,hl,rfl⟩
section
variable{X:Cx}{pins:List (Addr×Obj)}{σ:St}{H:Hp}{s:Shared}{a:Addr}{y v:V}{u r:Value}{o:Option V}{A:Around}{E:Value->Shared->Prop}
theorem Inv.big(I:Inv X pins σ H s):sysModules<s.heap.objs.size:=by
 have h:mainGlobals<s.heap.objs.size:=(I.mod.glob.keeps I.bk).lt;exact Nat.lt_trans (by decide) h
theorem Ze8{Q:Value->Shared->Prop}(hu:A.units+1<cLine)(I:Inv X pins σ H s)(g:DGet H a y (some v))(ry:RelV y u)(h:∀w' s',Inv X pins σ H s'->RelV v w'->Q w' s') :
 wpAny (model X.prog X.w) A (getItem (.ref a) u) Q E s:=by
 rcases g with⟨kvs,k,e,ey,l⟩|⟨kvs,k,b,e,ey,eb,l⟩
 · subst ey
   obtain⟨z,hd,vs,rel,dd⟩:=Qh I.hok e;obtain⟨w',hw,rw'⟩:=RelO.some_of (v:=v) (o:=valueAt vs k) (by rw [l];exact rel.val k);exact wpAny_getItem_of (Qg ry) dd.mapOf hw (h w' _ (I.tok _) rw')
 · subst ey
   cases(show u=Value.ref b from ry);obtain⟨z,hd,xs,rel,dd⟩:=QR I.hok e;obtain⟨w',hw,rw'⟩:=RelO.some_of (v:=v) (o:=(atKey xs k).map (·.2)) (by rw [l];exact rel.val k);obtain⟨p,hp,hp2⟩:=Option.map_eq_some_iff.mp hw;refine wpAny_getItem_heap (tupleKind_room_in1 hu) (QQ I.hok eb) dd hp ?_;rw [hp2];exact h w' _ (I.tok _) rw'
theorem Zmt{Q:Value->Shared->Prop}(hu:A.units+1<cLine)(I:Inv X pins σ H s)(g:DGet H a y o)(ry:RelV y u)(h:∀s',Inv X pins σ H s'->Q (.bool o.isSome) s') :
 wpAny (model X.prog X.w) A (compareOp .In u (.ref a)) Q E s:=by
 rcases g with⟨kvs,k,e,ey,l⟩|⟨kvs,k,b,e,ey,eb,l⟩
 · subst ey
   obtain⟨z,hd,vs,rel,dd⟩:=Qh I.hok e;refine wpAny_in_of (Qg ry) hd dd.mapOf ?_;rw [<-(rel.val k).isSome_eq,<-l];exact h _ (I.tok _)
 · subst ey
   cases(show u=Value.ref b from ry);obtain⟨z,hd,xs,rel,dd⟩:=QR I.hok e;refine wpAny_in_heap (tupleKind_room_in1 hu) (QQ I.hok eb) hd dd ?_;have q:=(rel.val k).isSome_eq;rw [Option.isSome_map]at q;rw [<-q,<-l];exact h _ (I.tok _)
theorem Zht{Q:Value->Shared->Prop}(hu:A.units+1<cLine)(I:Inv X pins σ H s)(g:DGet H a y o)(ry:RelV y u)(h:∀s',Inv X pins σ H s'->Q (.bool (!o.isSome)) s') :
 wpAny (model X.prog X.w) A (compareOp .NotIn u (.ref a)) Q E s:=by
 rcases g with⟨kvs,k,e,ey,l⟩|⟨kvs,k,b,e,ey,eb,l⟩
 · subst ey
   obtain⟨z,hd,vs,rel,dd⟩:=Qh I.hok e;refine wpAny_notIn_of (Qg ry) hd dd.mapOf ?_;rw [<-(rel.val k).isSome_eq,<-l];exact h _ (I.tok _)
 · subst ey
   cases(show u=Value.ref b from ry);obtain⟨z,hd,xs,rel,dd⟩:=QR I.hok e;refine wpAny_notIn_heap (tupleKind_room_in1 hu) (QQ I.hok eb) hd dd ?_;have q:=(rel.val k).isSome_eq;rw [Option.isSome_map]at q;rw [<-q,<-l];exact h _ (I.tok _)
theorem Zb6{h':Heap}{t':Nat}{ob:HO}(I:Inv X pins σ H s)(mu:Mut (H a))(hs:Heap.SameBut a s.heap h')(he:∃q,h'.get? a=some q)(new:ObjOk X.prog X.w (upd H a ob) h' a ob) :
 Inv X pins σ (upd H a ob) { s with heap:=h',toks:=t' }:=
 I.write (x:=a) (e:=a) mu (.inl rfl) (λb q hb z=>(hs.2 b hb).trans z) he new
theorem Zgy{P:Program}{w:World}{H':Hp}{h':Heap}{kvs:List (Key×V)}{vs:List (Key×Value)}(z:kvs.length<=sizeLine)(hd:(a == sysModules)=false)(rel:KV kvs vs)(dd:h'.DictOf (Xi P w) a vs) :
 ObjOk P w H' h' a (.dK kvs):=⟨z,hd,vs,rel,dd⟩
theorem Ze9{H':Hp}{Q:Unit->Shared->Prop}(hu:A.units+1<cLine)(I:Inv X pins σ H s)(g:DPut H a y v H')(ry:RelV y u)(rv:RelV v r)(h:∀s',Inv X pins σ H' s'->Q () s') :
 wpAny (model X.prog X.w) A (setItem (.ref a) u r) Q E s:=by
 rcases g with⟨kvs,k,e,ey,l,eH⟩|⟨kvs,k,b,e,ey,eb,l,eH⟩
 · subst ey eH
   obtain⟨z,hd,vs,rel,dd⟩:=ZiB I.hok e;have hz:vs.length<=sizeLine:=by rw [<-rel.length];exact z
   have hl:(YY kvs k v).length<=sizeLine:=by have:=Zag kvs k v;omega
   refine wpAny_setItem_pairs (hsz:=hz) (Qg ry) dd λh' dd' hs=>h _ ?_
   have he:∃q,h'.get? a=some q:=let⟨q,_,_,hq,_⟩:=dd';⟨q,hq⟩
   exact Zb6 I (by rw [e];exact True.intro) hs he (Zgy hl hd (rel.put k rv) dd')
 · subst ey eH
   cases(show u=Value.ref b from ry);obtain⟨z,hd,xs,rel,dd⟩:=ZkF I.hok e;have hz:xs.length<=sizeLine:=by rw [<-Paired.length rel];exact z
   have hl:(YY kvs k v).length<=sizeLine:=by have:=Zag kvs k v;omega
   refine wpAny_setItem_heap (hsz:=hz) (tupleKind_room_in1 hu) (QQ I.hok eb) dd λh' dd' hs=>h _ ?_
   obtain⟨q,es,ep,hq,h2,h3,h4,_,h5⟩:=dd';refine Zb6 I (by rw [e];exact True.intro) hs ⟨q,hq⟩ ⟨hl,hd,_,(rel.put k eb rv).keeps λc ys ec => ?_,q,es,ep,hq,h2,h3,h4,h5⟩;rw [Zz (Jg ec e (λz=>nomatch z))];exact ec
end
section
variable{X:Cx}{pins:List (Addr×Obj)}{σ:St}{H:Hp}{s:Shared}{a:Addr}{kvs:List (Key×V)}{k:Key}{u:Value}{A:Around}{E:Value->Shared->Prop}
theorem ZkG{Q:Value->Shared->Prop}(I:Inv X pins σ H s)(e:Rd H a (.dK kvs))(h:∀t s',Inv X pins σ H s'->Q (.int kvs.length t) s'):wpAny (model X.prog X.w) A (call (.builtin "len") [.ref a]) Q E s:=by
 obtain⟨z,hd,vs,rel,dd⟩:=Qh I.hok e;refine call_len_dict hd dd (by rw [<-rel.length];rw [sizeLine_eq]at z;omega) ?_;rw [<-rel.length];exact h _ _ (I.tok _)
end
def ZlY(i:Expr):Prop:=∀ov iv,subscripted i false ov iv=operate [ov,iv] (getItem ov iv)
theorem Zhu {prog:Program} {w:World} {A:Around} {E:Value->Shared->Prop} {s:Shared} {env:Env} {value slice:Expr} {pos:Pos} {T id:String} {Q:Value->Shared->Prop}
 (hl:typeLookup (.type T) "__getitem__" = pure (some (.builtin id))) (hs:ZlY slice)
 (h:wpAny (model prog w) A (eval value env) (λo s₁=>wpAny (model prog w) A (eval slice env) (λi s₂=>s₂.TypeIs o T/\wpAny (model prog w) A (getItem o i) Q E s₂) E s₁) E s) :
 wpAny (model prog w) A (eval (.Subscript value slice pos) env) Q E s:=by
 refine Subscript_ (wpAny_mono h (λo s₁ h₁=>wpAny_mono h₁ (λi s₂ h₂ => ?_) λ_ _ x=>x) λ_ _ x=>x);obtain⟨hT,h₂⟩:=h₂;unfold subscriptTail;refine wpAny_bind ?_;rw [getitemInPython_of_ne hT.not_modules];refine wpAny_bind (wpAny_specialOf hT hl ?_)
 have fin:wpAny (model prog w) A (subscripted slice false o i) (λr s₃=>wpAny (model prog w) A (letTemporaryGo value o r >>= λ_=>pure r) Q E s₃) E s₂:=by
  rw [hs o i];exact wpAny_operating (wpAny_mono h₂ (λr s₃ h₃=>wpAny_bind (wpAny_letTemporaryGo (wpAny_pure h₃))) λ_ _ x=>x)
 first
  |exact wpAny_pure (wpAny_bind fin)
  |exact wpAny_bind (wpAny_pure (wpAny_bind fin))
  |exact wpAny_bind fin
theorem Zcs{X:Cx}{pins:List (Addr×Obj)}{σ:St}{H:Hp}{s:Shared}{a:Addr}{y:V}{o:Option V}(I:Inv X pins σ H s)(g:DGet H a y o):s.TypeIs (.ref a) "dict" := by
 rcases g with⟨kvs,k,e,_,_⟩|⟨kvs,k,b,e,_,_,_⟩
 · obtain⟨_,_,vs,_,dd⟩:=Qh I.hok e
   exact dd.typeIs
 · obtain⟨_,_,xs,_,dd⟩:=QR I.hok e
   exact dd.typeIs
def ZiC(td ty:TE):TE:=λσ H Q=>td σ H λx H1=>ty σ H1 λy H2=>∃a v,x = .ref a/\DGet H2 a y (some v)/\Q v H2
def ZlZ(ty td:TE):TE:=λσ H Q=>ty σ H λy H1=>td σ H1 λx H2=>∃a o,x = .ref a/\DGet H2 a y o/\Q (.bl o.isSome) H2
def Zem(ty td:TE):TE:=λσ H Q=>ty σ H λy H1=>td σ H1 λx H2=>∃a o,x = .ref a/\DGet H2 a y o/\Q (.bl (!o.isSome)) H2
def ZiD(td ty tv:TE):TS:=λD σ H=>tv σ H λv H1=>td σ H1 λx H2=>ty σ H2 λy H3=>∃a H4,x = .ref a/\DPut H3 a y v H4/\D.nx σ H4
section
variable{X:Cx}{o i e value:Expr}{pos pos' tpos:Pos}{td ty tv:TE}
theorem Zhv(hu:X.A.units+1<cLine)(ho:PE X o td)(hi:PE X i ty)(hs:ZlY i):PE X (.Subscript o i pos) (ZiC td ty):=by
 intro pins s σ H Q I h;refine Zhu PySem.F.slot_dict_getitem.lookup hs (thn (ho pins s σ H _ I h) λu s1 ⟨x,H1,I1,rx,q1⟩=>thn (hi pins s1 σ H1 _ I1 q1) λiv s2 ⟨y,H2,I2,ry,a,v,ex,g,q2⟩ => ?_);subst ex;obtain rfl:u=Value.ref a:=rx;exact⟨Zcs I2 g,Ze8 hu I2 g ry λw' s3 I3 rw'=>⟨v,H2,I3,rw',q2⟩⟩
theorem Zjr(hu:X.A.units+1<cLine)(hi:PE X i ty)(ho:PE X o td):PC X .In i o (ZlZ ty td):=by
 intro pins s σ H Q I h;refine thn (hi pins s σ H _ I h) λiv s1 ⟨y,H1,I1,ry,q1⟩=>thn (ho pins s1 σ H1 _ I1 q1) λu s2 ⟨x,H2,I2,rx,a,ov,ex,g,q2⟩ => ?_
 subst ex;obtain rfl:u=Value.ref a:=rx;exact Zmt hu I2 g ry λs3 I3=>⟨.bl ov.isSome,H2,I3,rfl,q2⟩
theorem Zfa(hu:X.A.units+1<cLine)(hi:PE X i ty)(ho:PE X o td):PC X .NotIn i o (Zem ty td):=by
 intro pins s σ H Q I h;refine thn (hi pins s σ H _ I h) λiv s1 ⟨y,H1,I1,ry,q1⟩=>thn (ho pins s1 σ H1 _ I1 q1) λu s2 ⟨x,H2,I2,rx,a,ov,ex,g,q2⟩ => ?_
 subst ex;obtain rfl:u=Value.ref a:=rx;exact Zht hu I2 g ry λs3 I3=>⟨.bl (!ov.isSome),H2,I3,rfl,q2⟩
theorem Zen(hu:X.A.units+1<cLine)(ho:PE X o td)(hi:PE X i ty)(hv:PE X value tv)(hs:swapsWith value (some (.Subscript o i pos')) pos.line X.env=pure false) :
 PS X (.Assign [.Subscript o i pos'] value pos) (ZiD td ty tv):=by
 intro pins s σ H D I h;refine wpAny_Assign_Subscript (thn (hv pins s σ H _ I h) λr s1 ⟨v,H1,I1,rv,q1⟩=>thn (ho pins s1 σ H1 _ I1 q1) λu s2 ⟨x,H2,I2,rx,q2⟩=>thn (hi pins s2 σ H2 _ I2 q2) λiv s3 ⟨y,H3,I3,ry,a,H4,ex,g,q3⟩ => ?_) hs;subst ex;obtain rfl:u=Value.ref a:=rx;exact Ze9 hu I3 g ry rv λs4 I4=>⟨σ,H4,I4,q3⟩
end
theorem ZcU{P:Program}{w:World}{H:Hp}(h:Heap)(hb:sysModules<h.objs.size):ObjOk P w H (h.push { cls := .type "dict",data := .dict #[] }) h.objs.size (.dK []):=
 ⟨Nat.zero_le _,beq_eq_false_iff_ne.mpr (Ne.symm (Nat.ne_of_lt hb)),[],.nil,Heap.DictOf.new h⟩
def tDNewK:TE:=λ_ H Q=>∀p,H p=none->Q (.ref p) (upd H p (.dK []))
section
variable{X:Cx}{pos:Pos}
theorem ZfP:PE X (.Dict [] [] pos) tDNewK:=λpins s σ H Q I h=>
 wpAny_Dict_empty ⟨.ref s.heap.objs.size,_,I.laid (a:=s.heap.objs.size) (o:=.dK []) (t':=s.toks) (λ_ _ q=>Heap.get?_push_of_some _ q) (Nat.le_refl _) (ZcU s.heap I.big),rfl,h _ (I.hok.fresh (Nat.le_refl _))⟩
end
def ZdY:List (TE×TE)->St->Hp->(List (V×V)->Hp->Prop)->Prop
 | [],_,H,Q=>Q [] H
 |(tk,tv)::r,σ,H,Q=>tk σ H λx H1=>tv σ H1 λy H2=>ZdY r σ H2 λps H3=>Q ((x,y)::ps) H3
abbrev VV:List (V×V)->List (Value×Value)->Prop:=Paired λp q=>RelV p.1 q.1/\RelV p.2 q.2
def PPs(X:Cx)(pos:Pos)(keys:List (Option Expr))(values:List Expr)(trs:List (TE×TE)):Prop:=
 ∀(pins:List (Addr×Obj))(s:Shared)(σ:St)(H:Hp)(Q:List (V×V)->Hp->Prop),Inv X pins σ H s->ZdY trs σ H Q ->
  wpAny (model X.prog X.w) X.A (evalPairs (pairTrees keys values X.env pos)) (λvs s'=>∃ps H',Inv X pins σ H' s'/\VV ps vs/\Q ps H') X.xe s
theorem Zhw{X:Cx}{pos:Pos}:PPs X pos [] [] []:=λpins s σ H Q I h=>pairTrees_nil_walk ⟨[],H,I,.nil,h⟩
theorem ZfQ{X:Cx}{pos:Pos}{k v:Expr}{ks:List (Option Expr)}{vs:List Expr}{tk tv:TE}{trs:List (TE×TE)}(hk:PE X k tk)(hv:PE X v tv)(hr:PPs X pos ks vs trs) :
 PPs X pos (some k::ks) (v::vs) ((tk,tv)::trs):=λpins s σ H Q I h=>
 pairTrees_cons_walk (thn (hk pins s σ H _ I h) λu s1 ⟨x,H1,I1,rx,q1⟩=>thn (hv pins s1 σ H1 _ I1 q1) λw2 s2 ⟨y,H2,I2,ry,q2⟩=>
  thn (hr pins s2 σ H2 _ I2 q2) λws s3 ⟨ps,H3,I3,rel,q3⟩=>⟨(x,y)::ps,H3,I3,.cons ⟨rx,ry⟩ rel,q3⟩)
def Qi(kvs more:List (Key×V)):List (Key×V):=more.foldl (λacc kv=>YY acc kv.1 kv.2) kvs
theorem KV.merge:∀{more:List (Key×V)}{rs:List (Key×Value)}{kvs:List (Key×V)}{vs:List (Key×Value)},KV more rs->KV kvs vs->KV (Qi kvs more) (merged vs rs):=by
 intro more rs kvs vs r;unfold KV at r
 induction r generalizing kvs vs with
 |nil=>intro q;exact q
 | @cons p q ps qs h t ih=>
  intro r0
  have e:KV (YY kvs p.1 p.2) (stored vs q.1 q.2):=by
   have:=r0.put p.1 h.2;rw [<-h.1];exact this
  exact ih e
theorem Zam:∀(more kvs:List (Key×V)),(Qi kvs more).length<=kvs.length+more.length
 | [],kvs=>by show kvs.length<=kvs.length+0;omega
 |p::r,kvs=>by
  have h1:=Zam r (YY kvs p.1 p.2);have h2:=Zag kvs p.1 p.2;show(Qi (YY kvs p.1 p.2) r).length<=_;rw [List.length_cons];omega
theorem Za0{P:Program}{w:World}:∀{kvs:List (Key×V)}{ws:List (Value×Value)},VV (kvs.map λkv=>(kV kv.1,kv.2)) ws->∃rs,Carries (Xi P w) ws rs/\KV kvs rs
 | [],_,r=>by rw [List.map_nil]at r;cases r;exact⟨[],True.intro,.nil⟩
 |p::kvs,_,r=>by
  rw [List.map_cons]at r;cases r with
  | @cons a b as bs h t=>
   obtain⟨rs,c,q⟩:=Za0 (P:=P) (w:=w) t;obtain⟨b1,b2⟩:=b;exact⟨(p.1,b2)::rs,⟨Qg h.1,rfl,c⟩,.cons ⟨rfl,h.2⟩ q⟩
def ZiE(trs:List (TE×TE)):TE:=λσ H Q=>∀p,H p=none->ZdY trs σ (upd H p (.dK [])) λps H2=>H2 p=some (.dK [])/\∃kvs:List (Key×V),ps=kvs.map (λkv=>(kV kv.1,kv.2))/\kvs.length<=15/\Q (.ref p) (upd H2 p (.dK (Qi [] kvs)))
theorem Zhx {X:Cx} {pos:Pos} {keys:List (Option Expr)} {values:List Expr} {trs:List (TE×TE)} (h:PPs X pos keys values trs) (hall:keys.all (·.isSome)=true) (hl:keys.length=values.length) (h0:keys≠[])
 (h15:keys.length<=15):PE X (.Dict keys values pos) (ZiE trs):=by
 intro pins s σ H Q I q;have hn:=I.hok.fresh (Nat.le_refl s.heap.objs.size);have I1:=I.laid (a:=s.heap.objs.size) (o:=.dK []) (h':=s.heap.push { cls := .type "dict",data := .dict #[] }) (t':=s.toks) (λ_ _ q=>Heap.get?_push_of_some _ q) (Nat.le_refl _) (ZcU s.heap I.big);refine wpAny_Dict_walk (knd:=Xi X.prog X.w) hall hl h0 h15 (thn (h pins _ σ _ _ I1 (q _ hn)) λws s2 ⟨ps,H2,I2,rel,e,kvs,ep,lk,q2⟩ => ?_)
 subst ep;obtain⟨rs,c,rk⟩:=Za0 (P:=X.prog) (w:=X.w) rel;obtain⟨z,hd,vs0,r0,dd⟩:=ZiB I2.hok e;cases r0;refine⟨rs,c,dd,λh' dd' hs=>⟨.ref s.heap.objs.size,_,?_,rfl,q2⟩⟩
 have hz:(Qi [] kvs).length<=sizeLine:=by
  have h1:=Zam kvs [];rw [List.length_nil]at h1;rw [sizeLine_eq];omega
 have he:∃q,h'.get? s.heap.objs.size=some q:=let⟨q,_,_,hq,_⟩:=dd';⟨q,hq⟩
 exact Zb6 I2 (by rw [e];exact True.intro) hs he (Zgy hz hd (rk.merge .nil) dd')
structure M1(X:Cx)(o:Expr)(m:Str)(apos:Pos)(e:Expr)(cpos:Pos):Prop where
 base:attributeBase o m X.env (eval o X.env)=eval o X.env
 few:((backTo cpos (starEach [e] X.env)).all (λx => !x.1)&&(backToKw cpos (keywordEach [] X.env)).all (λx=>x.1.isSome)
  && decide (([e]:List Expr).length+([]:List Keyword).length+(if([]:List Keyword).isEmpty then 0 else 1)<30))=true
 line:(apos.endLine == cpos.line)=true
 trees:backTo cpos (starEach [e] X.env)=[(false,eval e X.env)]
structure M2(X:Cx)(o:Expr)(m:Str)(apos:Pos)(e f:Expr)(cpos:Pos):Prop where
 base:attributeBase o m X.env (eval o X.env)=eval o X.env
 few:((backTo cpos (starEach [e,f] X.env)).all (λx => !x.1)&&(backToKw cpos (keywordEach [] X.env)).all (λx=>x.1.isSome)
  && decide (([e,f]:List Expr).length+([]:List Keyword).length+(if([]:List Keyword).isEmpty then 0 else 1)<30))=true
 line:(apos.endLine == cpos.line)=true
 trees:backTo cpos (starEach [e,f] X.env)=[(false,eval e X.env),(false,eval f X.env)]
section
variable{X:Cx}{pins:List (Addr×Obj)}{σ:St}{H:Hp}{s:Shared}{a:Addr}{y d:V}{u r:Value}{o:Option V}{A:Around}{E:Value->Shared->Prop}
end
section
variable{X:Cx}{o e f:Expr}{apos cpos:Pos}{td ty tx:TE}
end
section
variable{X:Cx}{pins:List (Addr×Obj)}{σ:St}{H:Hp}{s:Shared}{a:Addr}{kvs:List (Key×V)}{A:Around}{E:Value->Shared->Prop}
end
section
variable{X:Cx}{pins:List (Addr×Obj)}{σ:St}{H:Hp}{s:Shared}{a:Addr}{y:V}{u:Value}{A:Around}{E:Value->Shared->Prop}
end
end L2
namespace DL
open PySem PySem.Spec L2
inductive D where
 |non
 |bl (b:Bool)
 |int (i:Int)
 |str (cs:List Nat)
 |lst (xs:List D)
 |tup (xs:List D)
 |obj (c:String) (ks:List String) (xs:List D)
 |dct (ks:List Key) (xs:List D)
 |dtt (ks:List (List Key)) (xs:List D)
def KL(K:PySem.W.Frag)(a:Addr)(vs:List V):Prop:=∃(o:Obj) (its:Array Value) (n:Nat),K.lookup a=some o/\o.cls = .type "list" /\ o.dict=none/\o.data = .seq its n/\its.size<=sizeLine/\Vals vs its.toList
structure Kn where
 c:String->Addr
 K:PySem.W.Frag
def ZE:D->Bool
 | .non=>true
 | .bl _=>true
 | .int _=>true
 | .str _=>true
 |_=>false
mutual
def Rep(cA:Kn)(av:Addr->Prop)(H:Hp):D->V->Prop
 | .non,v=>v = .non
 | .bl b,v=>v = .bl b
 | .int i,v=>v = .int i
 | .str cs,v=>v=S cs
 | .lst xs,v=>∃a vs,v = .ref a/\(av a->KL cA.K a vs)/\SqL cA.K H a vs/\RepL cA av H xs vs
 | .tup xs,v=>∃a vs,v = .ref a/\¬av a/\H a=some (.tup vs)/\RepL cA av H xs vs
 | .obj c ks xs,v=>∃a dx vs,v = .ref a/\¬av a/\H a=some (.ins (cA.c c) dx ((ks.map Str.ofString).zip vs))/\ks.length=xs.length/\RepL cA av H xs vs
 | .dct ks xs,v=>∃a vs,v = .ref a/\¬av a/\H a=some (.dK (ks.zip vs))/\ks.length=xs.length/\RepL cA av H xs vs
 | .dtt ks xs,v=>∃a vs,v = .ref a/\¬av a/\H a=some (.dT (ks.zip vs))/\ks.length=xs.length/\RepL cA av H xs vs
def RepL(cA:Kn)(av:Addr->Prop)(H:Hp):List D->List V->Prop
 | [],vs=>vs=[]
 |x::xs,vs=>∃v r,vs=v::r/\Rep cA av H x v/\RepL cA av H xs r
end
section
variable{cA:Kn}{G:Cn}{av av':Addr->Prop}{H H':Hp}
theorem Rd.ext{a:Addr}{u:HO}(h:Rd H a u)(k:∀o,H a=some o->H' a=some o):Rd H' a u:=by
 rcases h with h|⟨o,h⟩
 · exact .inl (k _ h)
 · exact .inr ⟨o,k _ h⟩
theorem Rd.there{a:Addr}{u:HO}(h:Rd H a u):H a≠none:=by
 rcases h with h|⟨o,h⟩<;>rw [h]<;>exact λz=>by cases z
theorem Ju{K:PySem.W.Frag}{a:Addr}{vs:List V}(n:av a->KL K a vs)(r:SqL K H a vs)(k:∀b o,¬av b->H b=some o->H' b=some o):SqL K H' a vs:=by
 by_cases h:av a
 · exact .inr (n h)
 · rcases r with r|r
   · exact .inl (Rd.ext r λo=>k a o h)
   · exact .inr r
theorem ZkH{K:PySem.W.Frag}{a:Addr}{vs:List V}(n:av a->KL K a vs)(r:SqL K H a vs)(k:∀b,av' b->av b\/H b=none):av' a->KL K a vs:=λz=>by
 rcases k a z with z|z
 · exact n z
 · rcases r with r|r
   · exact absurd z (Rd.there r)
   · exact r
mutual
theorem Rep.ext:∀{d:D}{v:V},(∀b o,¬av b->H b=some o->H' b=some o)->Rep cA av H d v->Rep cA av H' d v
 | .non,_,_,h=>h
 | .bl _,_,_,h=>h
 | .int _,_,_,h=>h
 | .str _,_,_,h=>h
 | .lst xs,v,k,h=>by
  unfold Rep at h ⊢;obtain⟨a,vs,e,n,r,l⟩:=h;exact⟨a,vs,e,n,Ju n r k,RepL.ext k l⟩
 | .tup xs,v,k,h=>by
  unfold Rep at h ⊢;obtain⟨a,vs,e,n,r,l⟩:=h;exact⟨a,vs,e,n,k a _ n r,RepL.ext k l⟩
 | .obj c ks xs,v,k,h=>by
  unfold Rep at h ⊢;obtain⟨a,dx,vs,e,n,r,z,l⟩:=h;exact⟨a,dx,vs,e,n,k a _ n r,z,RepL.ext k l⟩
 | .dct ks xs,v,k,h=>by
  unfold Rep at h ⊢;obtain⟨a,vs,e,n,r,z,l⟩:=h;exact⟨a,vs,e,n,k a _ n r,z,RepL.ext k l⟩
 | .dtt ks xs,v,k,h=>by
  unfold Rep at h ⊢;obtain⟨a,vs,e,n,r,z,l⟩:=h;exact⟨a,vs,e,n,k a _ n r,z,RepL.ext k l⟩
theorem RepL.ext:∀{xs:List D}{vs:List V},(∀b o,¬av b->H b=some o->H' b=some o)->RepL cA av H xs vs->RepL cA av H' xs vs
 | [],_,_,h=>h
 |x::xs,vs,k,h=>by
  unfold RepL at h ⊢;obtain⟨v,r,e,h1,h2⟩:=h;exact⟨v,r,e,Rep.ext k h1,RepL.ext k h2⟩
end
mutual
theorem Rep.av:∀{d:D}{v:V},(∀b,av' b->av b\/H b=none)->Rep cA av H d v->Rep cA av' H d v
 | .non,_,_,h=>h
 | .bl _,_,_,h=>h
 | .int _,_,_,h=>h
 | .str _,_,_,h=>h
 | .lst xs,v,k,h=>by
  unfold Rep at h ⊢;obtain⟨a,vs,e,n,r,l⟩:=h;exact⟨a,vs,e,ZkH n r k,r,RepL.av k l⟩
 | .tup xs,v,k,h=>by
  unfold Rep at h ⊢;obtain⟨a,vs,e,n,r,l⟩:=h;exact⟨a,vs,e,λz=>(k a z).elim n (by rw [r];exact λz=>by cases z),r,RepL.av k l⟩
 | .obj c ks xs,v,k,h=>by
  unfold Rep at h ⊢;obtain⟨a,dx,vs,e,n,r,z,l⟩:=h;exact⟨a,dx,vs,e,λy=>(k a y).elim n (by rw [r];exact λz=>by cases z),r,z,RepL.av k l⟩
 | .dct ks xs,v,k,h=>by
  unfold Rep at h ⊢;obtain⟨a,vs,e,n,r,z,l⟩:=h;exact⟨a,vs,e,λy=>(k a y).elim n (by rw [r];exact λz=>by cases z),r,z,RepL.av k l⟩
 | .dtt ks xs,v,k,h=>by
  unfold Rep at h ⊢;obtain⟨a,vs,e,n,r,z,l⟩:=h;exact⟨a,vs,e,λy=>(k a y).elim n (by rw [r];exact λz=>by cases z),r,z,RepL.av k l⟩
theorem RepL.av:∀{xs:List D}{vs:List V},(∀b,av' b->av b\/H b=none)->RepL cA av H xs vs->RepL cA av' H xs vs
 | [],_,_,h=>h
 |x::xs,vs,k,h=>by
  unfold RepL at h ⊢;obtain⟨v,r,e,h1,h2⟩:=h;exact⟨v,r,e,Rep.av k h1,RepL.av k h2⟩
end
theorem Rep.scal{d:D}{v:V}(hs:ZE d=true)(h:Rep cA av H d v):Rep cA av' H' d v:=by
 cases d<;>first|exact h|cases hs
theorem Rep.same{d:D}{v:V}(k:Same H H')(h:Rep cA av H d v):Rep cA av H' d v:=h.ext λb o _=>k b o
theorem RepL.same{xs:List D}{vs:List V}(k:Same H H')(h:RepL cA av H xs vs):RepL cA av H' xs vs:=h.ext λb o _=>k b o
theorem RepL.nil:RepL cA av H [] []:=by unfold RepL;rfl
theorem RepL.cons{d:D}{v:V}{xs:List D}{vs:List V}(h:Rep cA av H d v)(t:RepL cA av H xs vs):RepL cA av H (d::xs) (v::vs):=by
 unfold RepL;exact⟨v,vs,rfl,h,t⟩
theorem RepL.uncons{d:D}{xs:List D}{vs:List V}(h:RepL cA av H (d::xs) vs):∃v r,vs=v::r/\Rep cA av H d v/\RepL cA av H xs r:=by
 unfold RepL at h;exact h
theorem RepL.nil_of{vs:List V}(h:RepL cA av H [] vs):vs=[]:=by
 unfold RepL at h;exact h
theorem RepL.length:∀{xs:List D}{vs:List V},RepL cA av H xs vs->xs.length=vs.length
 | [],vs,h=>by rw [h.nil_of];rfl
 |x::xs,vs,h=>by
  obtain⟨v,r,rfl,_,t⟩:=h.uncons;rw [List.length_cons,List.length_cons,RepL.length t]
theorem RepL.get:∀{xs:List D}{vs:List V}{i:Nat}{x:D},RepL cA av H xs vs->xs[i]? = some x->∃v,vs[i]? = some v/\Rep cA av H x v
 | [],_,_,_,_,e=>by simp at e
 |y::xs,vs,0,x,h,e=>by
  obtain⟨v,r,rfl,h1,_⟩:=h.uncons;simp at e;subst e;exact⟨v,rfl,h1⟩
 |y::xs,vs,i+1,x,h,e=>by
  obtain⟨v,r,rfl,_,t⟩:=h.uncons;obtain⟨u,h1,h2⟩:=RepL.get (i:=i) t (by simpa using e);exact⟨u,by simpa using h1,h2⟩
theorem RepL.getV:∀{xs:List D}{vs:List V}{i:Nat}{v:V},RepL cA av H xs vs->vs[i]? = some v->∃x,xs[i]? = some x/\Rep cA av H x v
 | [],vs,_,_,h,e=>by rw [h.nil_of]at e;simp at e
 |y::xs,vs,0,v,h,e=>by
  obtain⟨v',r,rfl,h1,_⟩:=h.uncons;simp at e;subst e;exact⟨y,rfl,h1⟩
 |y::xs,vs,i+1,v,h,e=>by
  obtain⟨v',r,rfl,_,t⟩:=h.uncons;obtain⟨u,h1,h2⟩:=RepL.getV (i:=i) t (by simpa using e);exact⟨u,by simpa using h1,h2⟩
theorem RepL.append:∀{xs ys:List D}{vs ws:List V},RepL cA av H xs vs->RepL cA av H ys ws->RepL cA av H (xs++ys) (vs++ws)
 | [],_,vs,_,h,t=>by rw [h.nil_of];exact t
 |x::xs,ys,vs,ws,h,t=>by
  obtain⟨v,r,rfl,h1,h2⟩:=h.uncons;exact .cons h1 (RepL.append h2 t)
theorem RepL.drop:∀{xs:List D}{vs:List V}(n:Nat),RepL cA av H xs vs->RepL cA av H (xs.drop n) (vs.drop n)
 |_,_,0,h=>h
 | [],vs,n+1,h=>by rw [h.nil_of];exact .nil
 |x::xs,vs,n+1,h=>by
  obtain⟨v,r,rfl,_,h2⟩:=h.uncons;exact RepL.drop n h2
theorem RepL.take:∀{xs:List D}{vs:List V}(n:Nat),RepL cA av H xs vs->RepL cA av H (xs.take n) (vs.take n)
 |_,_,0,h=>by simp;exact .nil
 | [],vs,n+1,h=>by rw [h.nil_of];exact .nil
 |x::xs,vs,n+1,h=>by
  obtain⟨v,r,rfl,h1,h2⟩:=h.uncons;exact .cons h1 (RepL.take n h2)
theorem RepL.set{d:D}{v:V}(hd:Rep cA av H d v):∀{xs:List D}{vs:List V}(i:Nat),RepL cA av H xs vs->RepL cA av H (xs.set i d) (vs.set i v)
 | [],vs,_,h=>by rw [h.nil_of];exact .nil
 |x::xs,vs,0,h=>by
  obtain⟨v',r,rfl,h1,h2⟩:=h.uncons;exact .cons hd h2
 |x::xs,vs,i+1,h=>by
  obtain⟨v',r,rfl,h1,h2⟩:=h.uncons;exact .cons h1 (RepL.set hd i h2)
def val:D->V
 | .bl b => .bl b
 | .int i => .int i
 | .str cs=>S cs
 |_ => .non
theorem Rep.val{d:D}{v:V}(hs:ZE d=true)(h:Rep cA av H d v):v=DL.val d:=by
 cases d<;>first|exact h|cases hs
theorem Rep.of_val{d:D}(hs:ZE d=true):Rep cA av H d (DL.val d):=by
 cases d<;>first|rfl|cases hs
theorem RepL.vals:∀{xs:List D}{vs:List V},xs.all ZE=true->RepL cA av H xs vs->vs=xs.map DL.val
 | [],vs,_,h=>h.nil_of
 |x::xs,vs,hs,h=>by
  rw [List.all_cons,Bool.and_eq_true]at hs;obtain⟨v,r,rfl,h1,h2⟩:=h.uncons;rw [List.map_cons,h1.val hs.1,RepL.vals hs.2 h2]
theorem RepL.of_vals:∀{xs:List D},xs.all ZE=true->RepL cA av H xs (xs.map DL.val)
 | [],_ => .nil
 |x::xs,hs=>by
  rw [List.all_cons,Bool.and_eq_true]at hs;exact .cons (.of_val hs.1) (RepL.of_vals hs.2)
def RepT(cA:Kn)(t i:Addr->Prop)(H:Hp):D->V->Prop
 | .lst xs,v=>∃a vs,v = .ref a/\(t a->KL cA.K a vs)/\SqL cA.K H a vs/\RepL cA i H xs vs
 | .tup xs,v=>∃a vs,v = .ref a/\¬t a/\H a=some (.tup vs)/\RepL cA i H xs vs
 | .obj c ks xs,v=>∃a dx vs,v = .ref a/\¬t a/\H a=some (.ins (cA.c c) dx ((ks.map Str.ofString).zip vs))/\ks.length=xs.length/\RepL cA i H xs vs
 | .dct ks xs,v=>∃a vs,v = .ref a/\¬t a/\H a=some (.dK (ks.zip vs))/\ks.length=xs.length/\RepL cA i H xs vs
 | .dtt ks xs,v=>∃a vs,v = .ref a/\¬t a/\H a=some (.dT (ks.zip vs))/\ks.length=xs.length/\RepL cA i H xs vs
 |d,v=>v=DL.val d
theorem Rep.t{d:D}{v:V}(h:Rep cA av H d v):RepT cA av av H d v:=by
 cases d<;>first|exact h|(unfold Rep at h;exact h)
theorem RepT.r{d:D}{v:V}(h:RepT cA av av H d v):Rep cA av H d v:=by
 cases d<;>first|exact h|(unfold Rep;exact h)
theorem RepT.weak{t t' i i':Addr->Prop}{d:D}{v:V}(ht:∀a,t' a->t a)(hi:∀a,i' a->i a)(h:RepT cA t i H d v):RepT cA t' i' H d v:=by
 cases d with
 |lst xs=>obtain⟨a,vs,e,n,r,l⟩:=h;exact⟨a,vs,e,λz=>n (ht a z),r,l.av λb z => .inl (hi b z)⟩
 |tup xs=>obtain⟨a,vs,e,n,r,l⟩:=h;exact⟨a,vs,e,λz=>n (ht a z),r,l.av λb z => .inl (hi b z)⟩
 |obj c ks xs=>obtain⟨a,dx,vs,e,n,r,z,l⟩:=h;exact⟨a,dx,vs,e,λz=>n (ht a z),r,z,l.av λb z => .inl (hi b z)⟩
 |dct ks xs=>obtain⟨a,vs,e,n,r,z,l⟩:=h;exact⟨a,vs,e,λz=>n (ht a z),r,z,l.av λb z => .inl (hi b z)⟩
 |dtt ks xs=>obtain⟨a,vs,e,n,r,z,l⟩:=h;exact⟨a,vs,e,λz=>n (ht a z),r,z,l.av λb z => .inl (hi b z)⟩
 |_=>exact h
theorem RepT.same{t i:Addr->Prop}{d:D}{v:V}(k:Same H H')(h:RepT cA t i H d v):RepT cA t i H' d v:=by
 cases d with
 |lst xs=>obtain⟨a,vs,e,n,r,l⟩:=h;exact⟨a,vs,e,n,k.seq r,l.same k⟩
 |tup xs=>obtain⟨a,vs,e,n,r,l⟩:=h;exact⟨a,vs,e,n,k a _ r,l.same k⟩
 |obj c ks xs=>obtain⟨a,dx,vs,e,n,r,z,l⟩:=h;exact⟨a,dx,vs,e,n,k a _ r,z,l.same k⟩
 |dct ks xs=>obtain⟨a,vs,e,n,r,z,l⟩:=h;exact⟨a,vs,e,n,k a _ r,z,l.same k⟩
 |dtt ks xs=>obtain⟨a,vs,e,n,r,z,l⟩:=h;exact⟨a,vs,e,n,k a _ r,z,l.same k⟩
 |_=>exact h
end
abbrev Env:=List (Option D)
structure Cn where
 cA:Kn
 pin:Nat->Option (Addr ⊕ V)
def AV(av:Addr->Prop)(A:Nat->Option Addr)(a:Addr):Prop:=av a\/∃i,A i=some a
def Own(cA:Kn)(av:Addr->Prop)(H:Hp):D->Addr->Prop
 | .lst xs,a=>∃vs,H a=some (.lst vs)/\RepL cA av H xs vs
 | .obj c ks xs,a=>∃dx vs,H a=some (.ins (cA.c c) dx ((ks.map Str.ofString).zip vs))/\ks.length=xs.length/\RepL cA av H xs vs
 | .dct ks xs,a=>∃vs,H a=some (.dK (ks.zip vs))/\ks.length=xs.length/\RepL cA av H xs vs
 | .dtt ks xs,a=>∃vs,H a=some (.dT (ks.zip vs))/\ks.length=xs.length/\RepL cA av H xs vs
 |_,_=>False
structure ER(G:Cn)(ow:List Nat)(H0:Hp)(av:Addr->Prop)(A:Nat->Option Addr)(σ:St)(H:Hp)(δ:Env):Prop where
 same:Same H0 H
 avd:∀a,av a->H0 a≠none
 fr:∀i a,A i=some a->H0 a=none
 inj:∀i j a,A i=some a->A j=some a->i=j
 live:∀i a,A i=some a->H a≠none
 dom:∀i,A i≠none->i∈ow
 dom':∀i∈ow,A i≠none
 len:σ.length=δ.length
 pin:∀i a,G.2 i=some (.inl a)->A i=some a
 kept:∀i v,G.2 i=some (.inr v)->σ[i]? = some (some v)
 var:∀(i:Nat)(d:D),δ[i]? = some (some d)->∃v,σ[i]? = some (some v)/\(A i=none->Rep G.1 (AV av A) H d v)/\(∀a,A i=some a->v = .ref a/\Own G.1 (AV av A) H d a)
inductive Ql where
 |cl|tp|dt
def RepQ(cA:Kn)(av:Addr->Prop)(A:Nat->Option Addr)(H:Hp):Ql->D->V->Prop
 | .cl,d,v=>RepT cA (AV av A) (AV av A) H d v
 | .tp,d,v=>RepT cA av (AV av A) H d v
 | .dt,d,v=>RepT cA av av H d v
def Ql.it:Ql->Ql
 | .dt => .dt
 |_ => .cl
section
variable{cA:Kn}{G:Cn}{ow:List Nat}{H0 H H':Hp}{av:Addr->Prop}{A:Nat->Option Addr}{σ:St}{δ:Env}
theorem AV.l{a:Addr}(h:av a):AV av A a := .inl h
def Ql.iv(q:Ql)(av:Addr->Prop)(A:Nat->Option Addr):Addr->Prop:=match q with
 | .dt=>av
 |_=>AV av A
theorem RepQ.tp{q:Ql}{d:D}{v:V}(h:RepQ cA av A H q d v):RepT cA av (q.iv av A) H d v:=by
 cases q with
 |cl=>exact h.weak (λa => .inl) λa z=>z
 |tp=>exact h
 |dt=>exact h
theorem RepQ.any{q:Ql}{d:D}{v:V}(h:RepQ cA av A H q d v):Rep cA av H d v:=by
 cases q with
 |cl=>exact(h.weak (λa => .inl) λa => .inl).r
 |tp=>exact(h.weak (λa z=>z) λa => .inl).r
 |dt=>exact h.r
theorem RepQ.same{q:Ql}{d:D}{v:V}(k:Same H H')(h:RepQ cA av A H q d v):RepQ cA av A H' q d v:=by
 cases q<;>exact RepT.same k h
theorem ER.mono(E:ER G ow H0 av A σ H δ)(k:Same H H'):ER G ow H0 av A σ H' δ:=by
 refine⟨E.same.trans k,E.avd,E.fr,E.inj,λi a e => ?_,E.dom,E.dom',E.len,E.pin,E.kept,λi d e => ?_⟩
 · have:=E.live i a e
   cases q:H a with
   |none=>exact absurd q this
   |some o=>rw [k a o q];exact λz=>by cases z
 · obtain⟨v,h1,h2,h3⟩:=E.var i d e
   refine⟨v,h1,λz=>(h2 z).same k,λa z=>⟨(h3 a z).1,?_⟩⟩;have:=(h3 a z).2;cases d with
   |lst xs=>obtain⟨vs,q1,q2⟩:=this;exact⟨vs,k _ _ q1,q2.same k⟩
   |obj c ks xs=>obtain⟨dx,vs,q1,q0,q2⟩:=this;exact⟨dx,vs,k _ _ q1,q0,q2.same k⟩
   |dct ks xs=>obtain⟨vs,q1,q0,q2⟩:=this;exact⟨vs,k _ _ q1,q0,q2.same k⟩
   |dtt ks xs=>obtain⟨vs,q1,q0,q2⟩:=this;exact⟨vs,k _ _ q1,q0,q2.same k⟩
   |_=>exact this
theorem ER.avl(E:ER G ow H0 av A σ H δ):∀a,AV av A a->H a≠none:=λa h=>by
 rcases h with h|⟨i,h⟩
 · have:=E.avd a h
   cases q:H0 a with
   |none=>exact absurd q this
   |some o=>rw [E.same a o q];exact λz=>by cases z
 · exact E.live i a h
theorem ER.avH(E:ER G ow H0 av A σ H δ):∀a,av a->H a≠none:=λa h=>E.avl a (.inl h)
end
def VE(G:Cn)(ow:List Nat)(te:TE)(q:Ql)(ε:Env->Option D):Prop:=
 ∀H0 av A σ H δ,ER G ow H0 av A σ H δ->∀d,ε δ=some d->∀Q:VK,(∀v H',Same H H'->RepQ G.1 av A H' q d v->Q v H')->te σ H Q
def VF(G:Cn)(ow:List Nat)(te:TE)(ε:Env->Option D):Prop:=
 ∀H0 av A σ H δ,ER G ow H0 av A σ H δ->∀d,ε δ=some d->∀Q:VK,(∀p vs xs H1,Same H H1->H1 p=none->RepL G.1 (AV av A) H1 xs vs->d = .lst xs->Q (.ref p) (upd H1 p (.lst vs)))->te σ H Q
def VT(G:Cn)(ow:List Nat)(tt:TT)(τ:Env->Option Bool):Prop:=
 ∀H0 av A σ H δ,ER G ow H0 av A σ H δ->∀b,τ δ=some b->∀Q:Bool->Hp->Prop,(∀H',Same H H'->Q b H')->tt σ H Q
def RepQL(cA:Kn)(av:Addr->Prop)(A:Nat->Option Addr)(H:Hp)(q:Ql):List D->List V->Prop
 | [],vs=>vs=[]
 |x::xs,vs=>∃v r,vs=v::r/\RepQ cA av A H q x v/\RepQL cA av A H q xs r
def VA(G:Cn)(ow:List Nat)(ta:TA)(q:Ql)(α:Env->Option (List D)):Prop:=
 ∀H0 av A σ H δ,ER G ow H0 av A σ H δ->∀ds,α δ=some ds->∀Q:List V->Hp->Prop,(∀vs H',Same H H'->RepQL G.1 av A H' q ds vs->Q vs H')->ta σ H Q
section
variable{cA:Kn}{G:Cn}{ow:List Nat}
theorem RepQL.same{av:Addr->Prop}{A:Nat->Option Addr}{H H':Hp}{q:Ql}(k:Same H H'):∀{xs:List D}{vs:List V},RepQL cA av A H q xs vs->RepQL cA av A H' q xs vs
 | [],_,h=>h
 |x::xs,vs,h=>by
  obtain⟨v,r,e,h1,h2⟩:=h;exact⟨v,r,e,h1.same k,RepQL.same k h2⟩
theorem RepQL.cl{av:Addr->Prop}{A:Nat->Option Addr}{H:Hp}:∀{xs:List D}{vs:List V},RepQL cA av A H .cl xs vs->RepL cA (AV av A) H xs vs
 | [],_,h=>by unfold RepL;exact h
 |x::xs,vs,h=>by
  obtain⟨v,r,e,h1,h2⟩:=h;subst e;exact .cons (RepT.r h1) (RepQL.cl h2)
theorem RepQL.any{av:Addr->Prop}{A:Nat->Option Addr}{H:Hp}{q:Ql}:∀{xs:List D}{vs:List V},RepQL cA av A H q xs vs->RepL cA av H xs vs
 | [],_,h=>by unfold RepL;exact h
 |x::xs,vs,h=>by
  obtain⟨v,r,e,h1,h2⟩:=h;subst e;exact .cons h1.any (RepQL.any h2)
theorem VE.dt{te:TE}{q:Ql}{ε:Env->Option D}(h:VE G ow te q ε):VE G ow te .dt ε:=λH0 av A σ H δ E d e Q k=>
 h H0 av A σ H δ E d e Q λv H' s r=>k v H' s r.any.t
theorem ZW{H:Hp}{p:Addr}{o:HO}(h:H p=none):Same H (upd H p o):=ZfO h
theorem VF.cl{te:TE}{ε:Env->Option D}(h:VF G ow te ε):VE G ow te .cl ε:=λH0 av A σ H δ E d e Q k=>
 h H0 av A σ H δ E d e Q λp vs xs H1 s hp l hd=>by
  subst hd;refine k _ _ (s.trans (ZW hp)) ⟨p,vs,rfl,λz=>((E.mono s).avl p z hp).elim,SqL.of ZO,l.same (ZW hp)⟩
def Vn(ε:Env->Option D)(δ:Env):Option D:=match ε δ with
 |some d=>if ZE d then some d else none
 |none=>none
theorem VE.scal{te:TE}{q:Ql}{ε:Env->Option D}(h:VE G ow te q ε):VE G ow te .cl (Vn ε):=λH0 av A σ H δ E d e Q k=>by
 unfold Vn at e;cases he:ε δ with
 |none=>rw [he]at e;cases e
 |some d'=>
  rw [he]at e
  by_cases hs:ZE d'=true
  · have e':d'=d:=by simpa [hs]using e
    subst e';exact h H0 av A σ H δ E d' he Q λv H' s r=>k v H' s (Rep.scal hs r.any).t
  · simp [hs]at e
def Za(i:Nat)(δ:Env):Option D:=match δ[i]? with
 |some (some d)=>some d
 |_=>none
theorem Xj{i:Nat}{δ:Env}{d:D}(h:Za i δ=some d):δ[i]? = some (some d):=by
 unfold Za at h;cases e:δ[i]? with
 |none=>rw [e]at h;cases h
 |some o=>
  rw [e]at h;cases o with
  |none=>cases h
  |some x=>exact congrArg (some∘some) (Option.some.inj h)
theorem Zc(i:Nat)(hi:(ow.contains i)=false):VE G ow (YR i) .cl (Za i):=λH0 av A σ H δ E d e Q k=>by
 obtain⟨v,h1,h2,_⟩:=E.var i d (Xj e)
 have hn:A i=none:=by
  cases q:A i with
  |none=>rfl
  |some a=>
   have:=E.dom i (by rw [q];exact λz=>by cases z);simp at hi;exact absurd this hi
 exact⟨v,h1,k v H (Same.refl H) (h2 hn).t⟩
theorem Uz(i:Nat)(hi:(ow.contains i)=true):VE G ow (YR i) .tp (Za i):=λH0 av A σ H δ E d e Q k=>by
 obtain⟨v,h1,_,h3⟩:=E.var i d (Xj e);have hi':i∈ow:=by simpa using hi
 cases q:A i with
 |none=>exact absurd q (E.dom' i hi')
 |some a=>
  obtain⟨rfl,o⟩:=h3 a q;have na:¬av a:=λz=>E.avd a z (E.fr i a q)
  refine⟨_,h1,k _ H (Same.refl H) ?_⟩;cases d with
  |lst xs=>obtain⟨vs,q1,q2⟩:=o;exact⟨a,vs,rfl,λz=>(na z).elim,SqL.of q1,q2⟩
  |obj c ks xs=>obtain⟨dx,vs,q1,q0,q2⟩:=o;exact⟨a,dx,vs,rfl,na,q1,q0,q2⟩
  |dct ks xs=>obtain⟨vs,q1,q0,q2⟩:=o;exact⟨a,vs,rfl,na,q1,q0,q2⟩
  |dtt ks xs=>obtain⟨vs,q1,q0,q2⟩:=o;exact⟨a,vs,rfl,na,q1,q0,q2⟩
  |_=>exact False.elim o
def eC(d:D)(_:Env):Option D:=some d
theorem Zj{v:V}{d:D}(hs:ZE d=true)(hv:v=val d):VE G ow (tC v) .cl (eC d):=λH0 av A σ H δ E d' e Q k=>by
 have e':d=d':=Option.some.inj e;subst e' hv;exact k _ H (Same.refl H) (Rep.of_val hs).t
def Xk(cA:Kn)(r:R2)(f:D->D->Option D):Prop:=
 ∀(t t' i:Addr->Prop)(H:Hp)(x y:D)(vx vy:V)(d:D),(∀a,i a->H a≠none)->RepT cA t i H x vx->RepT cA t' i H y vy->f x y=some d->∀Q:VK,(∀v H',Same H H'->Rep cA i H' d v->Q v H')->r vx vy H Q
def eOp(f:D->D->Option D)(a b:Env->Option D)(δ:Env):Option D:=match a δ with
 |some x=>match b δ with
  |some y=>f x y
  |none=>none
 |none=>none
theorem Qj{f:D->D->Option D}{a b:Env->Option D}{δ:Env}{d:D}(h:eOp f a b δ=some d):∃x y,a δ=some x/\b δ=some y/\f x y=some d:=by
 unfold eOp at h;cases ea:a δ with
 |none=>rw [ea]at h;cases h
 |some x=>
  rw [ea]at h;cases eb:b δ with
  |none=>rw [eb]at h;cases h
  |some y=>rw [eb]at h;exact⟨x,y,rfl,rfl,h⟩
def Ql.jn:Ql->Ql->Ql
 | .dt,_ => .dt
 |_,.dt => .dt
 |_,_ => .cl
theorem Zd{r:R2}{f:D->D->Option D}{ta tb:TE}{qa qb:Ql}{a b:Env->Option D}(hr:Xk G.1 r f)(ha:VE G ow ta qa a)(hb:VE G ow tb qb b):VE G ow (tOp r ta tb) (qa.jn qb) (eOp f a b):=λH0 av A σ H δ E d e Q k=>by
 obtain⟨x,y,ex,ey,ed⟩:=Qj e;refine ha H0 av A σ H δ E x ex _ λvx H1 s1 r1=>hb H0 av A σ H1 δ (E.mono s1) y ey _ λvy H2 s2 r2 => ?_
 have E2:=(E.mono s1).mono s2;have r1':=(r1.same s2).tp;have r2':=r2.tp;have key:∀i:Addr->Prop,(∀a,i a->H2 a≠none)->RepT G.1 av i H2 x vx->RepT G.1 av i H2 y vy->(∀v H',Same H2 H'->Rep G.1 i H' d v->Q v H')->r vx vy H2 Q:=λi hi h1 h2 h3=>hr av av i H2 x y vx vy d hi h1 h2 ed Q h3
 have toav:∀{dd:D}{v:V},RepT G.1 av (AV av A) H2 dd v->RepT G.1 av av H2 dd v:=λh=>h.weak (λa z=>z) λa => .inl
 cases qa with
 |dt=>
  refine key av E2.avH r1' ?_ λv H' s3 r3=>k v H' ((s1.trans s2).trans s3) r3.t
  cases qb with
  |dt=>exact r2'
  |cl=>exact toav r2'
  |tp=>exact toav r2'
 |cl=>
  cases qb with
  |dt=>exact key av E2.avH (toav r1') r2' λv H' s3 r3=>k v H' ((s1.trans s2).trans s3) r3.t
  |cl=>exact key _ E2.avl r1' r2' λv H' s3 r3=>k v H' ((s1.trans s2).trans s3) r3.t
  |tp=>exact key _ E2.avl r1' r2' λv H' s3 r3=>k v H' ((s1.trans s2).trans s3) r3.t
 |tp=>
  cases qb with
  |dt=>exact key av E2.avH (toav r1') r2' λv H' s3 r3=>k v H' ((s1.trans s2).trans s3) r3.t
  |cl=>exact key _ E2.avl r1' r2' λv H' s3 r3=>k v H' ((s1.trans s2).trans s3) r3.t
  |tp=>exact key _ E2.avl r1' r2' λv H' s3 r3=>k v H' ((s1.trans s2).trans s3) r3.t
end
end DL
namespace DL
open PySem PySem.Spec L2
mutual
def toP:D->PyData
 | .non => .none
 | .bl b => .bool b
 | .int i => .int i
 | .str cs => .str (tx cs)
 | .lst xs => .list (Yq xs)
 | .tup xs => .tuple (Yq xs)
 | .obj _ _ _ => .dict []
 | .dct _ _ => .dict []
 | .dtt _ _ => .dict []
def Yq:List D->List PyData
 | []=>[]
 |x::xs=>toP x::Yq xs
end
section
variable{X:Cx}{cA:Kn}
mutual
theorem UU{pins:List (Addr×Obj)}{σ:L2.St}{H:Hp}{s:Shared}{av:Addr->Prop}(hK:cA.K=X.K)(I:Inv X pins σ H s):∀(d:D)(v:V)(u:Value),PyData.canLay0 (toP d)=true->Rep cA av H d v->RelV v u->∃as,Reads s.heap u (toP d) as
 | .non,v,u,_,h,r=>by
  cases(show v = .non from h);cases r;exact⟨_,.none⟩
 | .bl b,v,u,_,h,r=>by
  cases(show v = .bl b from h);cases r;exact⟨_,.bool b⟩
 | .int i,v,u,_,h,r=>by
  cases(show v = .int i from h);obtain⟨t,rfl⟩:=r;exact⟨_,.int i t⟩
 | .str cs,v,u,_,h,r=>by
  cases(show v=S cs from h);obtain⟨t,rfl⟩:=r;exact⟨_,.str _ t⟩
 | .lst xs,v,u,c,h,r=>by
  unfold Rep at h;obtain⟨a,vs,rfl,_,rd,l⟩:=h;cases r;obtain⟨its,rv,⟨ob,n,e,hc,hd,hs⟩,z⟩:=I.list (show SqL X.K H a vs from hK▸rd);obtain⟨as,ra⟩:=ZaC hK I xs vs its (by unfold toP PyData.canLay0 at c;exact c) l rv;unfold toP;exact⟨_,.list e hc hs (by simpa using ra)⟩
 | .tup xs,v,u,c,h,r=>by
  unfold Rep at h;obtain⟨a,vs,rfl,_,rd,l⟩:=h;cases r;obtain⟨z,its,rv,ob,e,hc,⟨n,hd⟩,_⟩:=(show ObjOk X.prog X.w H s.heap a (.tup vs)from I.hok a _ rd)
  obtain⟨as,ra⟩:=ZaC hK I xs vs its (by unfold toP PyData.canLay0 at c;exact c) l rv;unfold toP;exact⟨_,.tuple e hc hd (by simpa using ra)⟩
 | .obj c' ks xs,v,u,c,h,r=>by
  unfold toP PyData.canLay0 at c;cases c
 | .dct ks xs,v,u,c,h,r=>by
  unfold toP PyData.canLay0 at c;cases c
 | .dtt ks xs,v,u,c,h,r=>by
  unfold toP PyData.canLay0 at c;cases c
theorem ZaC{pins:List (Addr×Obj)}{σ:L2.St}{H:Hp}{s:Shared}{av:Addr->Prop}(hK:cA.K=X.K)(I:Inv X pins σ H s):∀(xs:List D)(vs:List V)(us:List Value),PyData.canLayAll0 (Yq xs)=true->RepL cA av H xs vs->Vals vs us->∃as,ReadsAll s.heap us (Yq xs) as
 | [],vs,us,_,h,r=>by
  rw [h.nil_of]at r;cases r;exact⟨_,.nil⟩
 |x::xs,vs,us,c,h,r=>by
  obtain⟨v,rr,rfl,h1,h2⟩:=h.uncons;cases r with
  |cons r1 r2=>
   unfold Yq PyData.canLayAll0 at c;rw [Bool.and_eq_true]at c;obtain⟨a1,q1⟩:=UU hK I x v _ c.1 h1 r1;obtain⟨a2,q2⟩:=ZaC hK I xs rr _ c.2 h2 r2;unfold Yq;exact⟨_,.cons q1 q2⟩
end
end
def eqD(x y:D):Option D:=
 if ZE x&&ZE y&&scal (val x) (val y)then some (.bl (decide (val x=val y)))
 else if SeqAt.shaped (toP x)&&SeqAt.shaped (toP y)then some (.bl (PyData.eqv (toP x) (toP y)))else none
def neD(x y:D):Option D:=match eqD x y with
 |some (.bl b)=>some (.bl (!b))
 |_=>none
def Jv(cA:Kn)(neg:Bool):R2:=λx y H Q=>∃av av' dx dy b,Rep cA av H dx x/\Rep cA av' H dy y/\eqD dx dy=some (.bl b)/\Q (.bl (neg != b)) H
section
variable{X:Cx}{cA:Kn}
theorem Vo(hu:X.A.units+64<cLine)(hK:cA.K=X.K:=by rfl):OpR X (compareOp .Eq) (Jv cA false):=by
 intro pins s σ H x y v u Q I rx ry h;obtain⟨av,av',dx,dy,b,hx,hy,e,q⟩:=h;unfold eqD at e
 by_cases h1:(ZE dx&&ZE dy&&scal (val dx) (val dy))=true
 · rw [if_pos h1]at e
   simp only [Bool.and_eq_true]at h1;obtain⟨⟨s1,s2⟩,s3⟩:=h1;have e1:=hx.val s1;have e2:=hy.val s2;subst e1 e2;have e':decide (val dx=val dy)=b:=by simpa using e
   exact Zkx pins s σ H _ _ v u Q I rx ry ⟨s3,by rw [e'];simpa using q⟩
 · rw [if_neg h1]at e
   by_cases h2:(SeqAt.shaped (toP dx)&&SeqAt.shaped (toP dy))=true
   · rw [if_pos h2]at e
     rw [Bool.and_eq_true]at h2;obtain⟨as,ra⟩:=UU hK I dx x v (SeqAt.canLay_of_shaped h2.1) hx rx;obtain⟨bs,rb⟩:=UU hK I dy y u (SeqAt.canLay_of_shaped h2.2) hy ry;have e':PyData.eqv (toP dx) (toP dy)=b:=by simpa using e
     exact PyProof.Rows.eq_dataH ra rb h2.1 h2.2 hu (by rw [e'];exact⟨.bl b,H,I,rfl,by simpa using q⟩)
   · rw [if_neg h2]at e
     cases e
theorem Y9(hu:X.A.units+64<cLine)(hK:cA.K=X.K:=by rfl):OpR X (compareOp .NotEq) (Jv cA true):=by
 intro pins s σ H x y v u Q I rx ry h;obtain⟨av,av',dx,dy,b,hx,hy,e,q⟩:=h;unfold eqD at e
 by_cases h1:(ZE dx&&ZE dy&&scal (val dx) (val dy))=true
 · rw [if_pos h1]at e
   simp only [Bool.and_eq_true]at h1;obtain⟨⟨s1,s2⟩,s3⟩:=h1;have e1:=hx.val s1;have e2:=hy.val s2;subst e1 e2;have e':decide (val dx=val dy)=b:=by simpa using e
   exact Zky pins s σ H _ _ v u Q I rx ry ⟨s3,by rw [e'];simpa using q⟩
 · rw [if_neg h1]at e
   by_cases h2:(SeqAt.shaped (toP dx)&&SeqAt.shaped (toP dy))=true
   · rw [if_pos h2]at e
     rw [Bool.and_eq_true]at h2;obtain⟨as,ra⟩:=UU hK I dx x v (SeqAt.canLay_of_shaped h2.1) hx rx;obtain⟨bs,rb⟩:=UU hK I dy y u (SeqAt.canLay_of_shaped h2.2) hy ry;have e':PyData.eqv (toP dx) (toP dy)=b:=by simpa using e
     exact PyProof.Rows.ne_dataH ra rb h2.1 h2.2 hu (by rw [e'];exact⟨.bl (!b),H,I,rfl,by simpa using q⟩)
   · rw [if_neg h2]at e
     cases e
theorem RepT.av0{t i:Addr->Prop}{H:Hp}{d:D}{v:V}(h:RepT cA t i H d v):Rep cA (λ_=>False) H d v:=(h.weak (λ_ z=>z.elim) λ_ z=>z.elim).r
theorem Zgz{x y d:D}(h:eqD x y=some d):∃b,d = .bl b:=by
 unfold eqD at h
 split at h
 · exact⟨_,(Option.some.inj h).symm⟩
 · split at h
   · exact⟨_,(Option.some.inj h).symm⟩
   · cases h
theorem Vp:Xk cA (Jv cA false) eqD:=λt t' i H x y vx vy d _ hx hy e Q k=>by
 obtain⟨b,rfl⟩:=Zgz e;exact⟨_,_,x,y,b,hx.av0,hy.av0,e,k _ H (Same.refl H) (by cases b<;>rfl)⟩
theorem Xa:Xk cA (Jv cA true) neD:=λt t' i H x y vx vy d _ hx hy e Q k=>by
 unfold neD at e;cases he:eqD x y with
 |none=>rw [he]at e;cases e
 |some z=>
  obtain⟨b,rfl⟩:=Zgz he;rw [he]at e;have e':D.bl (!b)=d:=Option.some.inj e;subst e';exact⟨_,_,x,y,b,hx.av0,hy.av0,he,k _ H (Same.refl H) (by cases b<;>rfl)⟩
def Qk(x:List Nat)(n:Int):List Nat:=(List.replicate n.toNat x).flatten
theorem ZbC(x:List Nat):∀(k:Nat)(acc:Array Nat),(List.replicate k x.toArray).foldl (· ++ ·) acc=acc++(List.replicate k x).flatten.toArray
 |0,acc=>by simp
 |k+1,acc=>by
  rw [List.replicate_succ,List.replicate_succ,List.foldl_cons,ZbC x k,List.flatten_cons];simp
theorem Zjs(x:List Nat)(n:Int):Txt.mul (tx x) n=tx (Qk x n):=by
 unfold Txt.mul Qk
 by_cases h1:n<1
 · rw [if_pos h1]
   have:n.toNat=0:=by omega
   rw [this];rfl
 · rw [if_neg h1]
   by_cases h2:(n == 1||(tx x).length == 0)=true
   · rw [if_pos h2]
     rw [Bool.or_eq_true]at h2;rcases h2 with h2|h2
     · have:n=1:=by simpa using h2
       subst this;simp
     · have : x = [] := by
        have:(tx x).length=0:=by simpa using h2
        rw [Vm]at this;exact List.eq_nil_of_length_eq_zero this
       subst this;simp
   · rw [if_neg h2]
     have:=ZbC x n.toNat #[];rw [this];simp
def rMulS:R2:=λx y H Q=>∃a n,x=S a/\y = .int n/\(n<2 ^ 63 /\ -(2 ^ 63)<=n/\a.length*n.toNat<=sizeLine)/\Q (S (Qk a n)) H
theorem op_mulS:OpR X (binaryOp .Mult) rMulS:=by
 intro pins s σ H x y v u Q I rx ry h;obtain⟨a,n,rfl,rfl,⟨h1,h2,h3⟩,q⟩:=h;obtain⟨t,rfl⟩:=rx;obtain⟨t',rfl⟩:=ry;refine SB.mul ⟨?_,λhn hc => ?_,λhn hc => ?_⟩ λt' k=>⟨S (Qk a n),H,I.tok _,⟨_,by rw [Zjs]⟩,q⟩
 · have e1:decide (n < -(2 ^ 63:Int))=false:=decide_eq_false (by omega)
   have e2:decide (n ≥ 2 ^ 63)=false:=decide_eq_false (by omega);rw [e1,e2];rfl
 · rw [Vm]
   have hs:sizeLine=16777216:=sizeLine_eq;intro hgt
   have h5:(a.length:Int)*n<=16777216:=by
    have:(a.length:Int)*n=((a.length*n.toNat:Nat):Int):=by
     rw [Int.natCast_mul,Int.toNat_of_nonneg (by omega)]
    rw [this];omega
   have h6:(2 ^ 63-1) / n<(a.length:Int):=hgt
   have h7:(2 ^ 63-1:Int)<(a.length:Int)*n:=by
    have:=Int.lt_mul_of_ediv_lt (show(0:Int)<n by omega) h6;rw [Int.mul_comm];rw [Int.mul_comm]at this;exact this
   omega
 · rw [Vm]
   show decide (a.length*n.toNat>sizeLine)=false;exact decide_eq_false (by omega)
instance (i j:Int):Decidable (CMul i j):=by unfold CMul;infer_instance
instance (i j:Int):Decidable (QJ i j):=by unfold QJ;infer_instance
def addD:D->D->Option D
 | .int i,.int j=>some (.int (i+j))
 | .str a,.str b=>if a.length+b.length<=sizeLine then some (.str (a++b))else none
 |_,_=>none
def subD:D->D->Option D
 | .int i,.int j=>some (.int (i-j))
 |_,_=>none
def Zl0:D->D->Option D
 | .int i,.int j=>if CMul i j then some (.int (i*j))else none
 | .str a,.int n=>if n<2 ^ 63 /\ -(2 ^ 63)<=n/\a.length*n.toNat<=sizeLine then some (.str (Qk a n))else none
 |_,_=>none
def ZiF:D->D->Option D
 | .int i,.int j=>if QJ i j then some (.int (i / j))else none
 |_,_=>none
def Zl1:D->D->Option D
 | .int i,.int j=>if 0<j then some (.int (i % j))else none
 |_,_=>none
def Z6(p:Int->Int->Bool):D->D->Option D
 | .int i,.int j=>some (.bl (p i j))
 |_,_=>none
theorem Zjt:Xk cA ZkC addD:=λt t' i H x y vx vy d _ hx hy e Q k=>by
 cases x<;>cases y<;>first|(cases e;done)|skip
 · cases(show vx=_ from hx);cases(show vy=_ from hy)
   cases e;exact .inl ⟨_,_,rfl,rfl,k _ H (Same.refl H) rfl⟩
 · cases(show vx=_ from hx);cases(show vy=_ from hy)
   rename_i a b;dsimp only [addD]at e
   by_cases hz:a.length+b.length<=sizeLine
   · rw [if_pos hz]at e
     cases e;exact .inr (.inl ⟨_,_,rfl,rfl,hz,k _ H (Same.refl H) rfl⟩)
   · rw [if_neg hz]at e;cases e
theorem Jw:Xk cA (rI0 λi j => .int (i-j)) subD:=λt t' i H x y vx vy d _ hx hy e Q k=>by
 cases x<;>cases y<;>first|(cases e;done)|skip
 cases(show vx=_ from hx);cases(show vy=_ from hy);cases e;exact⟨_,_,rfl,rfl,k _ H (Same.refl H) rfl⟩
theorem XD{p:Int->Int->Bool}:Xk cA (rI0 λi j => .bl (p i j)) (Z6 p):=λt t' i H x y vx vy d _ hx hy e Q k=>by
 cases x<;>cases y<;>first|(cases e;done)|skip
 cases(show vx=_ from hx);cases(show vy=_ from hy);cases e;exact⟨_,_,rfl,rfl,k _ H (Same.refl H) rfl⟩
def inD(neg:Bool):D->D->Option D
 | .str [c],.str b=>some (.bl (neg != decide (c∈b)))
 |x,.lst ys=>if ZE x&&ys.all ZE then some (.bl (if neg then !(inV (val x) (ys.map val))else inV (val x) (ys.map val)))else none
 |x,.tup ys=>if ZE x&&ys.all ZE then some (.bl (if neg then !(inV (val x) (ys.map val))else inV (val x) (ys.map val)))else none
 |_,_=>none
theorem Zbc{d:D}:ZE d=true->Vj (val d)=true:=by
 intro h;cases d<;>first|rfl|cases h
theorem ZaD:∀{xs:List D},xs.all ZE=true->(xs.map val).all Vj=true
 | [],_=>rfl
 |x::xs,h=>by
  rw [List.all_cons,Bool.and_eq_true]at h;rw [List.map_cons,List.all_cons,Zbc h.1,ZaD h.2];rfl
theorem Zhy{t i:Addr->Prop}{H:Hp}{d:D}{v:V}(hs:ZE d=true)(h:RepT cA t i H d v):v=val d:=by
 cases d<;>first|exact h|cases hs
theorem Zg1{neg:Bool}:Xk cA (Qe cA.K neg) (inD neg):=λt t' i H x y vx vy d _ hx hy e Q k=>by
 have seq:∀ys,(y = .lst ys\/y = .tup ys)->(if ZE x&&ys.all ZE then some (D.bl (if neg then !(inV (val x) (ys.map val))else inV (val x) (ys.map val)))else none)=some d->Qe cA.K neg vx vy H Q:=λys hy' e=>by
  by_cases hz:(ZE x&&ys.all ZE)=true
  · rw [if_pos hz]at e
    rw [Bool.and_eq_true]at hz;have ex:=Zhy hz.1 hx;subst ex;cases e;rcases hy' with rfl|rfl
    · obtain⟨a,vs,rfl,_,rd,l⟩:=hy
      have ev:=l.vals hz.2;subst ev;exact .inr ⟨a,_,rfl,.inl rd,Zbc hz.1,ZaD hz.2,k _ H (Same.refl H) rfl⟩
    · obtain⟨a,vs,rfl,_,rd,l⟩:=hy
      have ev:=l.vals hz.2;subst ev;exact .inr ⟨a,_,rfl,.inr (SqT.of rd),Zbc hz.1,ZaD hz.2,k _ H (Same.refl H) rfl⟩
  · rw [if_neg hz]at e;cases e
 cases y with
 |lst ys=>exact seq ys (.inl rfl) (by cases x<;>first|exact e|(rename_i cs;cases cs<;>first|exact e|(rename_i c r;cases r<;>exact e)))
 |tup ys=>exact seq ys (.inr rfl) (by cases x<;>first|exact e|(rename_i cs;cases cs<;>first|exact e|(rename_i c r;cases r<;>exact e)))
 |str b=>
  cases x with
  |str cs=>
   cases cs with
   |nil=>cases e
   |cons c r=>
    cases r with
    |cons _ _=>cases e
    |nil=>
     cases(show vx=_ from hx);cases(show vy=_ from hy);cases e;exact .inl ⟨c,b,rfl,rfl,k _ H (Same.refl H) rfl⟩
  |_=>cases e
 |_=>cases x<;>first|(cases e;done)|(rename_i cs;cases cs<;>first|(cases e;done)|(rename_i c r;cases r<;>cases e))
def ixD:D->D->Option D
 | .lst xs,.int i=>atI xs i
 | .tup xs,.int i=>atI xs i
 | .str cs,.int i=>if cs.length<=sizeLine then(atI cs i).map λc => .str [c]else none
 |_,_=>none
theorem Zeo{av:Addr->Prop}{H:Hp}{xs:List D}{vs:List V}{i:Int}{d:D}(l:RepL cA av H xs vs)(h:atI xs i=some d):∃v,atI vs i=some v/\Rep cA av H d v:=by
 unfold atI at h ⊢;rw [l.length]at h;cases e:ixN vs.length i with
 |none=>rw [e]at h;cases h
 |some j=>
  rw [e]at h;exact l.get h
theorem Zp:Xk cA (UT cA.K) ixD:=λt t' i H x y vx vy d _ hx hy e Q k=>by
 cases y<;>first|(cases x<;>cases e;done)|skip
 rename_i j;cases(show vy=_ from hy);cases x<;>first|(cases e;done)|skip
 · cases(show vx=_ from hx)
   rename_i cs;dsimp only [ixD]at e
   by_cases hz:cs.length<=sizeLine
   · rw [if_pos hz]at e
     cases ea:atI cs j with
     |none=>rw [ea]at e;cases e
     |some c=>
      rw [ea]at e;cases e;exact .inr (.inr ⟨cs,j,c,rfl,rfl,hz,ea,k _ H (Same.refl H) rfl⟩)
   · rw [if_neg hz]at e;cases e
 · obtain⟨a,vs,rfl,_,rd,l⟩:=hx
   obtain⟨v,h1,h2⟩:=Zeo l e;exact .inl ⟨a,vs,j,v,rfl,rfl,rd,h1,k v H (Same.refl H) h2⟩
 · obtain⟨a,vs,rfl,_,rd,l⟩:=hx
   obtain⟨v,h1,h2⟩:=Zeo l e;exact .inr (.inl ⟨a,vs,j,v,rfl,rfl,SqT.of rd,h1,k v H (Same.refl H) h2⟩)
end
end DL
namespace DL
open PySem PySem.Spec L2
section
variable{cA:Kn}{G:Cn}{ow:List Nat}
def bD:Option D->Option Bool
 |some (.bl b)=>some b
 |_=>none
theorem Zep{o:Option D}{b:Bool}(h:bD o=some b):o=some (.bl b):=by
 cases o with
 |none=>cases h
 |some d=>cases d<;>first|(cases h;rfl)|cases h
def xB(ε:Env->Option D)(δ:Env):Option Bool:=bD (ε δ)
theorem XT{te:TE}{q:Ql}{ε:Env->Option D}(h:VE G ow te q ε):VT G ow (tB te) (xB ε):=λH0 av A σ H δ E b e Q k=>
 h H0 av A σ H δ E _ (Zep e) _ λv H' s r=>⟨b,by cases q<;>exact r,k H' s⟩
theorem ZX{te:TE}{q:Ql}{ε:Env->Option D}(h:VE G ow te q ε):VT G ow (Ziu te) (xB ε):=λH0 av A σ H δ E b e Q k=>
 h H0 av A σ H δ E _ (Zep e) _ λv H' s r=>⟨b,by cases q<;>exact r,k H' s⟩
def Xl(τ:Env->Option Bool)(δ:Env):Option Bool:=match τ δ with
 |some b=>some (!b)
 |none=>none
theorem QS{t:TT}{τ:Env->Option Bool}(h:VT G ow t τ):VT G ow (ZlM t) (Xl τ):=λH0 av A σ H δ E b e Q k=>by
 unfold Xl at e;cases he:τ δ with
 |none=>rw [he]at e;cases e
 |some c=>
  rw [he]at e;cases e;exact h H0 av A σ H δ E c he _ λH' s=>k H' s
def Xe(τ υ:Env->Option Bool)(δ:Env):Option Bool:=match τ δ with
 |some true=>υ δ
 |some false=>some false
 |none=>none
def xOr(τ υ:Env->Option Bool)(δ:Env):Option Bool:=match τ δ with
 |some true=>some true
 |some false=>υ δ
 |none=>none
theorem Jx{t u:TT}{τ υ:Env->Option Bool}(h:VT G ow t τ)(h':VT G ow u υ):VT G ow (ZlL t u) (Xe τ υ):=λH0 av A σ H δ E b e Q k=>by
 unfold Xe at e;cases he:τ δ with
 |none=>rw [he]at e;cases e
 |some c=>
  rw [he]at e;refine h H0 av A σ H δ E c he _ λH' s => ?_
  cases c with
  |true=>exact Vl (h' H0 av A σ H' δ (E.mono s) b e _ λH2 s2=>k H2 (s.trans s2))
  |false=>cases e;exact Vk (k H' s)
theorem V0{t u:TT}{τ υ:Env->Option Bool}(h:VT G ow t τ)(h':VT G ow u υ):VT G ow (tOr t u) (xOr τ υ):=λH0 av A σ H δ E b e Q k=>by
 unfold xOr at e;cases he:τ δ with
 |none=>rw [he]at e;cases e
 |some c=>
  rw [he]at e;refine h H0 av A σ H δ E c he _ λH' s => ?_
  cases c with
  |true=>cases e;exact Vl (k H' s)
  |false=>exact Vk (h' H0 av A σ H' δ (E.mono s) b e _ λH2 s2=>k H2 (s.trans s2))
theorem YZ:VT G ow tYes (λ_=>some true):=λH0 av A σ H δ E b e Q k=>by
 cases e;exact k H (Same.refl H)
theorem blq{av:Addr->Prop}{A:Nat->Option Addr}{H:Hp}{q:Ql}{b:Bool}:RepQ cA av A H q (.bl b) (.bl b):=by cases q<;>exact rfl
theorem qbl{av:Addr->Prop}{A:Nat->Option Addr}{H:Hp}{q:Ql}{b:Bool}{v:V}(h:RepQ cA av A H q (.bl b) v):v = .bl b:=by cases q<;>exact h
def Vq(a b:Env->Option D)(δ:Env):Option D:=match a δ with
 |some (.bl true)=>b δ
 |some (.bl false)=>some (.bl false)
 |_=>none
def eOr(a b:Env->Option D)(δ:Env):Option D:=match a δ with
 |some (.bl true)=>some (.bl true)
 |some (.bl false)=>b δ
 |_=>none
def Zl2(a:Env->Option D)(δ:Env):Option D:=match a δ with
 |some (.bl b)=>some (.bl (!b))
 |_=>none
theorem ZgA{ta tb:TE}{qa qb:Ql}{a b:Env->Option D}(ha:VE G ow ta qa a)(hb:VE G ow tb qb b):VE G ow (Ziq ta tb) qb (Vq a b):=λH0 av A σ H δ E d e Q k=>by
 unfold Vq at e;cases he:a δ with
 |none=>rw [he]at e;cases e
 |some x=>
  rw [he]at e;cases x<;>first|(cases e;done)|skip
  rename_i c;refine ha H0 av A σ H δ E _ he _ λv H' s r=>⟨c,qbl r,?_⟩
  cases c with
  |true=>exact Vl (hb H0 av A σ H' δ (E.mono s) d e _ λv2 H2 s2 r2=>k v2 H2 (s.trans s2) r2)
  |false=>cases e;exact Vk (k _ H' s blq)
def eIf(τ:Env->Option Bool)(a b:Env->Option D)(δ:Env):Option D:=match τ δ with
 |some true=>a δ
 |some false=>b δ
 |none=>none
def QT:D->Bool
 | .non=>true
 |_=>false
theorem Zhz{av:Addr->Prop}{H:Hp}{d:D}{v:V}(h:Rep cA av H d v):decide (v = .non)=QT d:=by
 cases d with
 |non=>cases(show v=_ from h);rfl
 |bl b=>cases(show v=_ from h);rfl
 |int i=>cases(show v=_ from h);rfl
 |str cs=>cases(show v=_ from h);rfl
 |lst xs=>unfold Rep at h;obtain⟨a,vs,rfl,_⟩:=h;rfl
 |tup xs=>unfold Rep at h;obtain⟨a,vs,rfl,_⟩:=h;rfl
 |obj c ks xs=>unfold Rep at h;obtain⟨a,dx,vs,rfl,_⟩:=h;rfl
 |dct ks xs=>unfold Rep at h;obtain⟨a,vs,rfl,_⟩:=h;rfl
 |dtt ks xs=>unfold Rep at h;obtain⟨a,vs,rfl,_⟩:=h;rfl
def Zl3(a:Env->Option D)(δ:Env):Option D:=match a δ with
 |some d=>some (.bl (QT d))
 |none=>none
def V1(a:Env->Option D)(δ:Env):Option D:=match a δ with
 |some d=>some (.bl (!QT d))
 |none=>none
theorem Zeq{ta:TE}{qa:Ql}{a:Env->Option D}(ha:VE G ow ta qa a):VE G ow (Zip ta) .cl (V1 a):=λH0 av A σ H δ E d e Q k=>by
 unfold V1 at e;cases he:a δ with
 |none=>rw [he]at e;cases e
 |some x=>
  rw [he]at e;cases e;refine ha H0 av A σ H δ E _ he _ λv H' s r => ?_
  rw [Zhz r.any];exact k _ H' s blq
def ZgB(f g:D->D->Option D)(a b c:Env->Option D)(δ:Env):Option D:=match eOp f a b δ with
 |some (.bl true)=>eOp g b c δ
 |some (.bl false)=>some (.bl false)
 |_=>none
def Vr:D->Option D
 | .int i=>some (.int (-i))
 |_=>none
def eUn(f:D->Option D)(a:Env->Option D)(δ:Env):Option D:=match a δ with
 |some x=>f x
 |none=>none
theorem QU{ta:TE}{qa:Ql}{a:Env->Option D}(ha:VE G ow ta qa a):VE G ow (tUn (rU λi => .int (-i)) ta) .cl (eUn Vr a):=λH0 av A σ H δ E d e Q k=>by
 unfold eUn at e;cases he:a δ with
 |none=>rw [he]at e;cases e
 |some x=>
  rw [he]at e;cases x<;>first|(cases e;done)|skip
  cases e;refine ha H0 av A σ H δ E _ he _ λv H' s r => ?_
  have e1:=r.any;exact⟨_,e1,k _ H' s rfl⟩
def eNil(_:Env):Option (List D):=some []
def Zb(a:Env->Option D)(r:Env->Option (List D))(δ:Env):Option (List D):=match a δ with
 |some x=>match r δ with
  |some xs=>some (x::xs)
  |none=>none
 |none=>none
theorem Zm{q:Ql}:VA G ow tNil q eNil:=λH0 av A σ H δ E ds e Q k=>by
 cases e;exact k [] H (Same.refl H) rfl
theorem Zg{te:TE}{ta:TA}{q:Ql}{a:Env->Option D}{r:Env->Option (List D)}(ha:VE G ow te q a)(hr:VA G ow ta q r):VA G ow (Xp te ta) q (Zb a r):=λH0 av A σ H δ E ds e Q k=>by
 unfold Zb at e;cases he:a δ with
 |none=>rw [he]at e;cases e
 |some x=>
  rw [he]at e;cases hr':r δ with
  |none=>rw [hr']at e;cases e
  |some xs=>
   rw [hr']at e;cases e;exact ha H0 av A σ H δ E x he _ λv H1 s1 r1=>hr H0 av A σ H1 δ (E.mono s1) xs hr' _ λvs H2 s2 r2=>k _ H2 (s1.trans s2) ⟨v,vs,rfl,r1.same s2,r2⟩
theorem RepQL.length{av:Addr->Prop}{A:Nat->Option Addr}{H:Hp}{q:Ql}{xs:List D}{vs:List V}(h:RepQL cA av A H q xs vs):xs.length=vs.length:=h.any.length
def Yc(α:Env->Option (List D))(δ:Env):Option D:=match α δ with
 |some xs=>if xs.length<=sizeLine then some (.lst xs)else none
 |none=>none
theorem XE{t:TA}{α:Env->Option (List D)}(h:VA G ow t .cl α):VF G ow (Zki t) (Yc α):=λH0 av A σ H δ E d e Q k=>by
 unfold Yc at e;cases he:α δ with
 |none=>rw [he]at e;cases e
 |some xs=>
  rw [he]at e
  by_cases hz:xs.length<=sizeLine
  · have e':D.lst xs=d:=by simpa [hz]using e
    exact h H0 av A σ H δ E xs he _ λvs H1 s1 r1=>⟨by rw [<-r1.length];exact hz,λp hp=>k p vs xs H1 s1 hp r1.cl e'.symm⟩
  · simp [hz]at e
def Yi(α:Env->Option (List D))(δ:Env):Option D:=match α δ with
 |some xs=>if xs.length<=sizeLine then some (.tup xs)else none
 |none=>none
theorem X9{t:TA}{α:Env->Option (List D)}(h:VA G ow t .cl α):VE G ow (ZlS t) .cl (Yi α):=λH0 av A σ H δ E d e Q k=>by
 unfold Yi at e;cases he:α δ with
 |none=>rw [he]at e;cases e
 |some xs=>
  rw [he]at e
  by_cases hz:xs.length<=sizeLine
  · have e':D.tup xs=d:=by simpa [hz]using e
    subst e';refine h H0 av A σ H δ E xs he _ λvs H1 s1 r1=>⟨by rw [<-r1.length];exact hz,λp hp=>k _ _ (s1.trans (ZW hp)) ⟨p,vs,rfl,λz=>(E.mono s1).avl p z hp,ZO,r1.cl.same (ZW hp)⟩⟩
  · simp [hz]at e
def UV(cA:Kn)(i:Addr->Prop)(H:Hp):List D->List V->Prop
 | [],vs=>vs=[]
 |x::xs,vs=>∃v r,vs=v::r/\(∃t,RepT cA t i H x v)/\UV cA i H xs r
theorem RepQL.il{av:Addr->Prop}{A:Nat->Option Addr}{H:Hp}{q:Ql}:∀{xs:List D}{vs:List V},RepQL cA av A H q xs vs->UV cA (q.iv av A) H xs vs
 | [],_,h=>h
 |x::xs,vs,h=>by
  obtain⟨v,r,e,h1,h2⟩:=h;exact⟨v,r,e,⟨_,h1.tp⟩,RepQL.il h2⟩
def Vt(cA:Kn)(r:List V->Hp->VK->Prop)(f:List D->Option D):Prop:=
 ∀(i:Addr->Prop)(H:Hp)(ds:List D)(vs:List V)(d:D),(∀a,i a->H a≠none)->UV cA i H ds vs->f ds=some d->∀Q:VK,(∀v H',Same H H'->Rep cA i H' d v->Q v H')->r vs H Q
def eCB(f:List D->Option D)(α:Env->Option (List D))(δ:Env):Option D:=match α δ with
 |some ds=>f ds
 |none=>none
theorem Z1{r:List V->Hp->VK->Prop}{f:List D->Option D}{t:TA}{q:Ql}{α:Env->Option (List D)}(hr:Vt G.1 r f)(h:VA G ow t q α):VE G ow (tCB r t) q.it (eCB f α):=λH0 av A σ H δ E d e Q k=>by
 unfold eCB at e;cases he:α δ with
 |none=>rw [he]at e;cases e
 |some ds=>
  rw [he]at e;refine h H0 av A σ H δ E ds he _ λvs H1 s1 r1 => ?_
  have E1:=E.mono s1;cases q with
  |cl=>exact hr _ H1 ds vs d E1.avl r1.il e _ λv H' s r=>k v H' (s1.trans s) r.t
  |tp=>exact hr _ H1 ds vs d E1.avl r1.il e _ λv H' s r=>k v H' (s1.trans s) r.t
  |dt=>exact hr _ H1 ds vs d E1.avH r1.il e _ λv H' s r=>k v H' (s1.trans s) r.t
theorem il1{i:Addr->Prop}{H:Hp}{x:D}{vs:List V}(h:UV cA i H [x] vs):∃v t,vs=[v]/\RepT cA t i H x v:=by
 obtain⟨v,r,rfl,⟨t,h1⟩,h2⟩:=h;cases(show r=[]from h2);exact⟨v,t,rfl,h1⟩
def lenD:List D->Option D
 | [.str a]=>if a.length<=sizeLine then some (.int a.length)else none
 | [.lst xs]=>some (.int xs.length)
 | [.tup xs]=>some (.int xs.length)
 |_=>none
theorem YM:Vt cA (ZgZ cA.K) lenD:=λi H ds vs d _ h e Q k=>by
 cases ds with
 |nil=>cases e
 |cons x r=>
  cases r with
  |cons _ _=>cases x<;>cases e
  |nil=>
   obtain⟨v,t,rfl,hx⟩:=il1 h;cases x<;>first|(cases e;done)|skip
   · rename_i a
     dsimp only [lenD]at e
     by_cases hz:a.length<=sizeLine
     · rw [if_pos hz]at e
       cases e;exact .inl ⟨a,by rw [show v=S a from hx],hz,k _ H (Same.refl H) rfl⟩
     · rw [if_neg hz]at e;cases e
   · obtain⟨a,ws,rfl,_,rd,l⟩:=hx
     cases e;exact .inr ⟨a,ws,rfl,.inl rd,k _ H (Same.refl H) (by rw [l.length];rfl)⟩
   · obtain⟨a,ws,rfl,_,rd,l⟩:=hx
     cases e;exact .inr ⟨a,ws,rfl,.inr (SqT.of rd),k _ H (Same.refl H) (by rw [l.length];rfl)⟩
def Zl4:List D->Option D
 | [.int i,.int j]=>some (.int (if j<i then j else i))
 |_=>none
def Zl5:List D->Option D
 | [.int i,.int j]=>some (.int (if j>i then j else i))
 |_=>none
def UA:List D->Option (List Bool)
 | []=>some []
 | .bl b::r=>match UA r with
  |some bs=>some (b::bs)
  |none=>none
 |_=>none
theorem ZcV:∀{xs:List D}{bs:List Bool},UA xs=some bs->xs=bs.map D.bl
 | [],bs,h=>by cases h;rfl
 |x::xs,bs,h=>by
  cases x<;>first|(cases h;done)|skip
  rename_i b;unfold UA at h;cases hr:UA xs with
  |none=>rw [hr]at h;cases h
  |some cs=>
   rw [hr]at h;cases h;rw [List.map_cons,ZcV hr]
def QV(f:List Bool->Bool):List D->Option D
 | [.lst xs]=>match UA xs with
  |some bs=>some (.bl (f bs))
  |none=>none
 |_=>none
theorem Zju{f:List Bool->Bool}:Vt cA (Zg0 cA.K f) (QV f):=λi H ds vs d _ h e Q k=>by
 unfold QV at e
 split at e
 · rename_i xs
   cases hb:UA xs with
   |none=>rw [hb]at e;cases e
   |some bs=>
    rw [hb]at e;cases e;obtain⟨v,t,rfl,a,ws,rfl,_,rd,l⟩:=il1 h;have ex:=ZcV hb;subst ex;have ev:=l.vals (by rw [List.all_map];exact List.all_eq_true.mpr λ_ _=>rfl);rw [List.map_map]at ev;subst ev;exact⟨a,bs,rfl,rd,k _ H (Same.refl H) rfl⟩
 · cases e
def ZZ:List D->Option D
 | [.lst xs]=>some (.tup xs)
 | [.tup xs]=>some (.tup xs)
 |_=>none
def ZiG:List D->Option D
 | [.lst xs]=>some (.lst xs)
 | [.tup xs]=>some (.lst xs)
 |_=>none
theorem XF{t:TA}{α:Env->Option (List D)}(h:VA G ow t .cl α):VE G ow (tCB (Zgx G.1.K) t) .cl (eCB ZZ α):=λH0 av A σ H δ E d e Q k=>by
 unfold eCB at e;cases he:α δ with
 |none=>rw [he]at e;cases e
 |some ds=>
  rw [he]at e;refine h H0 av A σ H δ E ds he _ λvs H1 s1 r1 => ?_
  have E1:=E.mono s1;have e:ZZ ds=some d:=e;unfold ZZ at e
  split at e
  · rename_i xs
    cases e;obtain⟨v,r,rfl,⟨a,ws,rfl,_,rd,l⟩,h2⟩:=r1;cases(show r=[]from h2);exact⟨a,ws,rfl,.inl ⟨rd,λp hp=>k _ _ (s1.trans (ZW hp)) ⟨p,ws,rfl,λz=>E1.avl p z hp,ZO,l.same (ZW hp)⟩⟩⟩
  · rename_i xs
    cases e;obtain⟨v,r,rfl,⟨a,ws,rfl,na,rd,l⟩,h2⟩:=r1;cases(show r=[]from h2);exact⟨a,ws,rfl,.inr ⟨SqT.of rd,k _ H1 s1 ⟨a,ws,rfl,na,rd,l⟩⟩⟩
  · cases e
end
end DL
namespace DL
open PySem PySem.Spec L2
inductive Out where
 |nx (δ:Env)
 |rt (d:D)
 |bk (δ:Env)
 |ct (δ:Env)
def ZiH(G:Cn)(owN owB owC:List Nat)(H0:Hp)(av:Addr->Prop)(De:Ends):Out->Prop
 | .nx δ'=>∀A' σ' H',ER G owN H0 av A' σ' H' δ'->De.nx σ' H'
 | .rt d=>∀v H',Same H0 H'->Rep G.1 av H' d v->De.rt v H'
 | .bk δ'=>∀A' σ' H',ER G owB H0 av A' σ' H' δ'->De.bk σ' H'
 | .ct δ'=>∀A' σ' H',ER G owC H0 av A' σ' H' δ'->De.ct σ' H'
def VS(G:Cn)(ow owN owB owC:List Nat)(ts:TS)(φ:Env->Option Out):Prop:=
 ∀H0 av A σ H δ,ER G ow H0 av A σ H δ->∀o,φ δ=some o->∀De:Ends,ZiH G owN owB owC H0 av De o->ts De σ H
def VG(G:Cn)(ow ow':List Nat)(g:TG)(γ:D->Env->Option Env):Prop:=
 ∀H0 av A σ H δ,ER G ow H0 av A σ H δ->∀d v,Rep G.1 (AV av A) H d v->∀δ',γ d δ=some δ'->∀Q:L2.St->Hp->Prop,(∀A' σ' H',Same H H'->ER G ow' H0 av A' σ' H' δ'->Q σ' H')->g v σ H Q
def sub(a b:List Nat):Bool:=a.all λx=>b.contains x
theorem Jy{a b:List Nat}(h:sub a b=true):∀x∈a,x∈b:=λx hx=>by
 have:=List.all_eq_true.mp h x hx;simpa using this
section
variable{cA:Kn}{G:Cn}{ow owN owB owC ow1 ow2:List Nat}{H0 H H':Hp}{av:Addr->Prop}{A:Nat->Option Addr}{σ:L2.St}{δ:Env}
theorem Jz{α:Type}{l:List (Option α)}{i j:Nat}{x y:α}(h:(l.set i (some x))[j]? = some (some y)):(j=i/\y=x/\i<l.length)\/(j≠i/\l[j]? = some (some y)):=by
 by_cases e:j=i
 · subst e
   by_cases hl:j<l.length
   · rw [List.getElem?_set_self hl]at h
     exact .inl ⟨rfl,(Option.some.inj (Option.some.inj h)).symm,hl⟩
   · rw [List.getElem?_eq_none (by simpa using hl)]at h
     cases h
 · rw [List.getElem?_set_ne (Ne.symm e)]at h
   exact .inr ⟨e,h⟩
theorem ER.set{i:Nat}{d:D}{v:V}(E:ER G ow H0 av A σ H δ)(h:Rep G.1 (AV av A) H d v)(hw:∀j,j∈ow1 ↔ j∈ow/\j≠i)(hn:G.2 i=none) :
 ER G ow1 H0 av (λj=>if j=i then none else A j) (σ.set i (some v)) H (δ.set i (some d)):=by
 have less:∀b,AV av (λj=>if j=i then none else A j) b->AV av A b:=λb z=>by
  rcases z with z|⟨j,z⟩
  · exact .inl z
  · by_cases e:j=i
    · simp [e]at z
    · simp [e]at z;exact .inr ⟨j,z⟩
 refine⟨E.same,E.avd,λj a e => ?_,λj k a e1 e2 => ?_,λj a e => ?_,λj e => ?_,λj hj => ?_,by simp [E.len],λj a e=>(by
  have q:j≠i:=λz=>by rw [z,hn]at e;cases e
  simp only [q,if_false];exact E.pin j a e),(λj v' e=>by
  have q:j≠i:=λz=>by rw [z,hn]at e;cases e
  rw [List.getElem?_set_ne (Ne.symm q)];exact E.kept j v' e),λj d' e => ?_⟩
 · by_cases q:j=i
   · simp [q]at e
   · simp [q]at e;exact E.fr j a e
 · by_cases q:j=i
   · simp [q]at e1
   · by_cases q2:k=i
     · simp [q2]at e2
     · simp [q]at e1;simp [q2]at e2;exact E.inj j k a e1 e2
 · by_cases q:j=i
   · simp [q]at e
   · simp [q]at e;exact E.live j a e
 · by_cases q:j=i
   · simp [q]at e
   · simp [q]at e;exact(hw j).mpr ⟨E.dom j e,q⟩
 · obtain⟨h1,h2⟩:=(hw j).mp hj
   simp [h2];exact E.dom' j h1
 · rcases Jz e with⟨rfl,rfl,hl⟩|⟨q,e'⟩
   · refine⟨v,?_,λ_=>h.av λb z => .inl (less b z),λa z=>by simp at z⟩
     rw [List.getElem?_set_self (by rw [E.len];exact hl)]
   · obtain⟨v',h1,h2,h3⟩:=E.var j d' e'
     refine⟨v',by rw [List.getElem?_set_ne (Ne.symm q)];exact h1,λz => ?_,λa z => ?_⟩
     · simp [q]at z
       exact(h2 z).av λb z => .inl (less b z)
     · simp [q]at z
       obtain⟨r1,r2⟩:=h3 a z;refine⟨r1,?_⟩;cases d' with
       |lst xs=>obtain⟨vs,q1,q2⟩:=r2;exact⟨vs,q1,q2.av λb z => .inl (less b z)⟩
       |obj c ks xs=>obtain⟨dx,vs,q1,q0,q2⟩:=r2;exact⟨dx,vs,q1,q0,q2.av λb z => .inl (less b z)⟩
       |dct ks xs=>obtain⟨vs,q1,q0,q2⟩:=r2;exact⟨vs,q1,q0,q2.av λb z => .inl (less b z)⟩
       |dtt ks xs=>obtain⟨vs,q1,q0,q2⟩:=r2;exact⟨vs,q1,q0,q2.av λb z => .inl (less b z)⟩
       |_=>exact r2
theorem ER.own{i:Nat}{xs:List D}{vs:List V}{p:Addr}(E:ER G ow H0 av A σ H δ)(hp:H p=none)(l:RepL G.1 (AV av A) H xs vs)(hw:∀j,j∈ow1 ↔ j∈ow\/j=i)(hn:G.2 i=none) :
 ER G ow1 H0 av (λj=>if j=i then some p else A j) (σ.set i (some (.ref p))) (upd H p (.lst vs)) (δ.set i (some (.lst xs))):=by
 have hs:Same H (upd H p (.lst vs)):=ZW hp
 have less:∀b,AV av (λj=>if j=i then some p else A j) b->AV av A b\/H b=none:=λb z=>by
  rcases z with z|⟨j,z⟩
  · exact .inl (.inl z)
  · by_cases e:j=i
    · simp [e]at z;subst z;exact .inr hp
    · simp [e]at z;exact .inl (.inr ⟨j,z⟩)
 have np:∀j a,A j=some a->a≠p:=λj a e z=>by subst z;exact E.live j a e hp
 have h0:H0 p=none:=by
  cases q:H0 p with
  |none=>rfl
  |some o=>rw [E.same p o q]at hp;cases hp
 refine⟨E.same.trans hs,E.avd,λj a e => ?_,λj k a e1 e2 => ?_,λj a e => ?_,λj e => ?_,λj hj => ?_,by simp [E.len],λj a e=>(by
  have q:j≠i:=λz=>by rw [z,hn]at e;cases e
  simp only [q,if_false];exact E.pin j a e),(λj v' e=>by
  have q:j≠i:=λz=>by rw [z,hn]at e;cases e
  rw [List.getElem?_set_ne (Ne.symm q)];exact E.kept j v' e),λj d' e => ?_⟩
 · by_cases q:j=i
   · simp [q]at e;subst e;exact h0
   · simp [q]at e;exact E.fr j a e
 · by_cases q:j=i
   · by_cases q2:k=i
     · rw [q,q2]
     · simp [q]at e1;simp [q2]at e2
       exact absurd e1.symm (np k a e2)
   · by_cases q2:k=i
     · simp [q]at e1;simp [q2]at e2
       exact absurd e2.symm (np j a e1)
     · simp [q]at e1;simp [q2]at e2;exact E.inj j k a e1 e2
 · by_cases q:j=i
   · simp [q]at e;subst e;rw [ZO];exact λz=>by cases z
   · simp [q]at e
     rw [Zz (np j a e)];exact E.live j a e
 · by_cases q:j=i
   · exact(hw j).mpr (.inr q)
   · simp [q]at e;exact(hw j).mpr (.inl (E.dom j e))
 · by_cases q:j=i
   · simp [q]
   · simp [q]
     exact E.dom' j (((hw j).mp hj).resolve_right q)
 · rcases Jz e with⟨rfl,rfl,hl⟩|⟨q,e'⟩
   · refine⟨.ref p,?_,λz=>by simp at z,λa z => ?_⟩
     · rw [List.getElem?_set_self (by rw [E.len];exact hl)]
     · simp at z
       subst z;exact⟨rfl,vs,ZO,(l.av less).same hs⟩
   · obtain⟨v',h1,h2,h3⟩:=E.var j d' e'
     refine⟨v',by rw [List.getElem?_set_ne (Ne.symm q)];exact h1,λz => ?_,λa z => ?_⟩
     · simp [q]at z
       exact((h2 z).av less).same hs
     · simp [q]at z
       obtain⟨r1,r2⟩:=h3 a z;refine⟨r1,?_⟩;cases d' with
       |lst xs=>obtain⟨vs',q1,q2⟩:=r2;exact⟨vs',hs _ _ q1,(q2.av less).same hs⟩
       |obj c ks xs=>obtain⟨dx,vs',q1,q0,q2⟩:=r2;exact⟨dx,vs',hs _ _ q1,q0,(q2.av less).same hs⟩
       |dct ks xs=>obtain⟨vs',q1,q0,q2⟩:=r2;exact⟨vs',hs _ _ q1,q0,(q2.av less).same hs⟩
       |dtt ks xs=>obtain⟨vs',q1,q0,q2⟩:=r2;exact⟨vs',hs _ _ q1,q0,(q2.av less).same hs⟩
       |_=>exact r2
theorem ER.put{i:Nat}{a:Addr}{d d':D}(E:ER G ow H0 av A σ H δ)(hi:A i=some a)(hd:δ[i]? = some (some d))(hk:∀b o,b≠a->H b=some o->H' b=some o)(hl:H' a≠none)(ho:Own G.1 (AV av A) H' d' a) :
 ER G ow H0 av A σ H' (δ.set i (some d')):=by
 have kk:∀b o,¬AV av A b->H b=some o->H' b=some o:=λb o n e=>hk b o (λz=>n (.inr ⟨i,by rw [z];exact hi⟩)) e
 refine⟨λb o e=>hk b o (λz => ?_) (E.same b o e),E.avd,E.fr,E.inj,λj b e => ?_,E.dom,E.dom',by simp [E.len],E.pin,E.kept,λj d'' e => ?_⟩
 · rw [z,E.fr i a hi]at e;cases e
 · by_cases q:b=a
   · subst q;exact hl
   · have:=E.live j b e
     cases e':H b with
     |none=>exact absurd e' this
     |some o=>rw [hk b o q e'];exact λz=>by cases z
 · rcases Jz e with⟨rfl,rfl,hl'⟩|⟨q,e'⟩
   · obtain⟨v,h1,_,h3⟩:=E.var j d hd
     obtain⟨r1,_⟩:=h3 a hi
     exact⟨v,h1,λz=>(by rw [hi]at z;cases z),λb z=>by
      rw [hi]at z;cases z;exact⟨r1,ho⟩⟩
   · obtain⟨v',h1,h2,h3⟩:=E.var j d'' e'
     refine⟨v',h1,λz=>(h2 z).ext kk,λb z => ?_⟩;obtain⟨r1,r2⟩:=h3 b z;have nb:b≠a:=λw=>q (E.inj j i a (by rw [<-w];exact z) hi)
     refine⟨r1,?_⟩;cases d'' with
     |lst xs=>obtain⟨vs,q1,q2⟩:=r2;exact⟨vs,hk _ _ nb q1,q2.ext kk⟩
     |obj c ks xs=>obtain⟨dx,vs,q1,q0,q2⟩:=r2;exact⟨dx,vs,hk _ _ nb q1,q0,q2.ext kk⟩
     |dct ks xs=>obtain⟨vs,q1,q0,q2⟩:=r2;exact⟨vs,hk _ _ nb q1,q0,q2.ext kk⟩
     |dtt ks xs=>obtain⟨vs,q1,q0,q2⟩:=r2;exact⟨vs,hk _ _ nb q1,q0,q2.ext kk⟩
     |_=>exact r2
theorem ER.freeze(i:Nat)(E:ER G ow H0 av A σ H δ)(hw:∀j,j∈ow1 ↔ j∈ow/\j≠i)(hn:G.2 i=none):ER G ow1 H0 av (λj=>if j=i then none else A j) σ H δ:=by
 have less:∀b,AV av (λj=>if j=i then none else A j) b->AV av A b:=λb z=>by
  rcases z with z|⟨j,z⟩
  · exact .inl z
  · by_cases e:j=i
    · simp [e]at z
    · simp [e]at z;exact .inr ⟨j,z⟩
 refine⟨E.same,E.avd,λj a e => ?_,λj k a e1 e2 => ?_,λj a e => ?_,λj e => ?_,λj hj => ?_,E.len,λj a e=>(by
  have q:j≠i:=λz=>by rw [z,hn]at e;cases e
  simp only [q,if_false];exact E.pin j a e),E.kept,λj d' e => ?_⟩
 · by_cases q:j=i
   · simp [q]at e
   · simp [q]at e;exact E.fr j a e
 · by_cases q:j=i
   · simp [q]at e1
   · by_cases q2:k=i
     · simp [q2]at e2
     · simp [q]at e1;simp [q2]at e2;exact E.inj j k a e1 e2
 · by_cases q:j=i
   · simp [q]at e
   · simp [q]at e;exact E.live j a e
 · by_cases q:j=i
   · simp [q]at e
   · simp [q]at e;exact(hw j).mpr ⟨E.dom j e,q⟩
 · obtain⟨h1,h2⟩:=(hw j).mp hj
   simp [h2];exact E.dom' j h1
 · obtain⟨v',h1,h2,h3⟩:=E.var j d' e
   refine⟨v',h1,λz => ?_,λa z => ?_⟩
   · by_cases q:j=i
     · subst q
       cases hA:A j with
       |none=>exact(h2 hA).av λb z => .inl (less b z)
       |some a=>
        obtain⟨rfl,r2⟩:=h3 a hA
        have na:¬AV av (λk=>if k=j then none else A k) a:=λz=>by
         rcases z with z|⟨k,z⟩
         · exact E.avd a z (E.fr j a hA)
         · by_cases qk:k=j
           · simp [qk]at z
           · simp [qk]at z;exact qk (E.inj k j a z hA)
        cases d' with
        |lst xs=>obtain⟨vs,q1,q2⟩:=r2;unfold Rep;exact⟨a,vs,rfl,λz=>(na z).elim,SqL.of q1,q2.av λb z => .inl (less b z)⟩
        |obj c ks xs=>obtain⟨dx,vs,q1,q0,q2⟩:=r2;unfold Rep;exact⟨a,dx,vs,rfl,na,q1,q0,q2.av λb z => .inl (less b z)⟩
        |dct ks xs=>obtain⟨vs,q1,q0,q2⟩:=r2;unfold Rep;exact⟨a,vs,rfl,na,q1,q0,q2.av λb z => .inl (less b z)⟩
        |dtt ks xs=>obtain⟨vs,q1,q0,q2⟩:=r2;unfold Rep;exact⟨a,vs,rfl,na,q1,q0,q2.av λb z => .inl (less b z)⟩
        |_=>exact False.elim r2
     · simp [q]at z
       exact(h2 z).av λb z => .inl (less b z)
   · by_cases q:j=i
     · simp [q]at z
     · simp [q]at z
       obtain⟨r1,r2⟩:=h3 a z;refine⟨r1,?_⟩;cases d' with
       |lst xs=>obtain⟨vs,q1,q2⟩:=r2;exact⟨vs,q1,q2.av λb z => .inl (less b z)⟩
       |obj c ks xs=>obtain⟨dx,vs,q1,q0,q2⟩:=r2;exact⟨dx,vs,q1,q0,q2.av λb z => .inl (less b z)⟩
       |dct ks xs=>obtain⟨vs,q1,q0,q2⟩:=r2;exact⟨vs,q1,q0,q2.av λb z => .inl (less b z)⟩
       |dtt ks xs=>obtain⟨vs,q1,q0,q2⟩:=r2;exact⟨vs,q1,q0,q2.av λb z => .inl (less b z)⟩
       |_=>exact r2
open Classical in
noncomputable def cut(A:Nat->Option Addr)(H:Hp):Hp:=λb=>if ∃i,A i=some b then none else H b
theorem JA{b:Addr}{o:HO}(h:cut A H b=some o):H b=some o/\¬∃i,A i=some b:=by
 unfold cut at h
 by_cases e:∃i,A i=some b
 · rw [if_pos e]at h;cases h
 · rw [if_neg e]at h;exact⟨h,e⟩
theorem Vu{b:Addr}(e:¬∃i,A i=some b):cut A H b=H b:=by
 unfold cut;rw [if_neg e]
theorem ER.cut(E:ER G ow H0 av A σ H δ):ER G ow (DL.cut A H) av A σ H δ:=by
 refine⟨λb o e=>(JA e).1,λa z => ?_,λi a e => ?_,E.inj,E.live,E.dom,E.dom',E.len,E.pin,E.kept,E.var⟩
 · rw [Vu λ⟨i,e⟩=>E.avd a z (E.fr i a e)]
   exact E.avH a z
 · unfold DL.cut
   rw [if_pos ⟨i,e⟩]
theorem ER.sub0(E:ER G ow H0 av A σ H δ):Same H0 (DL.cut A H):=λb o e=>by
 rw [Vu λ⟨i,z⟩=>by rw [E.fr i b z]at e;cases e];exact E.same b o e
theorem ER.uncut{A':Nat->Option Addr}{σ':L2.St}{δ':Env}(E:ER G ow H0 av A σ H δ)(E':ER G ow1 (DL.cut A H) av A' σ' H' δ'):ER G ow1 H0 av A' σ' H' δ':=
 ⟨E.sub0.trans E'.same,E.avd,λi a e=>E.sub0.free (E'.fr i a e),E'.inj,E'.live,E'.dom,E'.dom',E'.len,E'.pin,E'.kept,E'.var⟩
def sNext(δ:Env):Option Out:=some (.nx δ)
theorem Yz:VS G ow ow owB owC tNext sNext:=λH0 av A σ H δ E o e De k=>by
 cases e;exact k A σ H E
def Zf(φ ψ:Env->Option Out)(δ:Env):Option Out:=match φ δ with
 |some (.nx δ')=>ψ δ'
 |r=>r
theorem Zx{t u:TS}{φ ψ:Env->Option Out}(h1:VS G ow ow1 owB owC t φ)(h2:VS G ow1 owN owB owC u ψ):VS G ow owN owB owC (Uu t u) (Zf φ ψ):=λH0 av A σ H δ E o e De k=>by
 unfold Zf at e;cases he:φ δ with
 |none=>rw [he]at e;cases e
 |some o1=>
  rw [he]at e;refine h1 H0 av A σ H δ E o1 he _ ?_;cases o1 with
  |nx δ'=>exact λA' σ' H' E'=>h2 H0 av A' σ' H' δ' E' o e De k
  |rt d=>cases e;exact k
  |bk δ'=>cases e;exact k
  |ct δ'=>cases e;exact k
def sIf(τ:Env->Option Bool)(φ ψ:Env->Option Out)(δ:Env):Option Out:=match τ δ with
 |some true=>φ δ
 |some false=>ψ δ
 |none=>none
theorem Yt{c:TT}{t u:TS}{τ:Env->Option Bool}{φ ψ:Env->Option Out}(hc:VT G ow c τ)(h1:VS G ow owN owB owC t φ)(h2:VS G ow owN owB owC u ψ):VS G ow owN owB owC (Zkd c t u) (sIf τ φ ψ):=λH0 av A σ H δ E o e De k=>by
 unfold sIf at e;cases he:τ δ with
 |none=>rw [he]at e;cases e
 |some b=>
  rw [he]at e;refine hc H0 av A σ H δ E b he _ λH' s => ?_
  cases b with
  |true=>exact Vl (h1 H0 av A σ H' δ (E.mono s) o e De k)
  |false=>exact Vk (h2 H0 av A σ H' δ (E.mono s) o e De k)
def Zy(ε:Env->Option D)(δ:Env):Option Out:=match ε δ with
 |some d=>some (.rt d)
 |none=>none
theorem ZS{te:TE}{q:Ql}{ε:Env->Option D}(h:VE G ow te q ε):VS G ow owN owB owC (Zkc te) (Zy ε):=λH0 av A σ H δ E o e De k=>by
 unfold Zy at e;cases he:ε δ with
 |none=>rw [he]at e;cases e
 |some d=>
  rw [he]at e;cases e;exact h H0 av A σ H δ E d he _ λv H' s r=>k v H' (E.same.trans s) r.any
def ZiI(_:Env):Option Out:=some (.rt .non)
def ZgC(_:Env):Option Out:=none
def Zq(i:Nat)(ε:Env->Option D)(δ:Env):Option Out:=match ε δ with
 |some d=>some (.nx (δ.set i (some d)))
 |none=>none
theorem ZaE{i:Nat}(h1:sub ow1 ow=true)(h2:ow1.contains i=false)(h3:sub ow (i::ow1)=true):∀j,j∈ow1 ↔ j∈ow/\j≠i:=λj=>by
 constructor
 · intro h
   refine⟨Jy h1 j h,λe => ?_⟩;subst e;have:j∉ow1:=by simpa using h2
   exact this h
 · rintro⟨h,n⟩
   rcases List.mem_cons.mp (Jy h3 j h)with e|e
   · exact absurd e n
   · exact e
theorem ZcW{i:Nat}(h1:sub ow1 (i::ow)=true)(h2:ow1.contains i=true)(h3:sub ow ow1=true):∀j,j∈ow1 ↔ j∈ow\/j=i:=λj=>by
 constructor
 · intro h
   rcases List.mem_cons.mp (Jy h1 j h)with e|e
   · exact .inr e
   · exact .inl e
 · rintro(h|rfl)
   · exact Jy h3 j h
   · simpa using h2
theorem ZY{te:TE}{ε:Env->Option D}(i:Nat)(h:VE G ow te .cl ε)(hn:G.2 i=none)(h1:sub owN ow=true)(h2:owN.contains i=false)(h3:sub ow (i::owN)=true):VS G ow owN owB owC (X3 te (Y8 i)) (Zq i ε):=λH0 av A σ H δ E o e De k=>by
 unfold Zq at e;cases he:ε δ with
 |none=>rw [he]at e;cases e
 |some d=>
  rw [he]at e;cases e;exact h H0 av A σ H δ E d he _ λv H' s r=>k _ _ H' ((E.mono s).set (RepT.r r) (ZaE h1 h2 h3) hn)
theorem V2{te:TE}{ε:Env->Option D}(i:Nat)(h:VF G ow te ε)(hn:G.2 i=none)(h1:sub owN (i::ow)=true)(h2:owN.contains i=true)(h3:sub ow owN=true):VS G ow owN owB owC (X3 te (Y8 i)) (Zq i ε):=λH0 av A σ H δ E o e De k=>by
 unfold Zq at e;cases he:ε δ with
 |none=>rw [he]at e;cases e
 |some d=>
  rw [he]at e;cases e;refine h H0 av A σ H δ E d he _ λp vs xs H1 s hp l hd => ?_
  subst hd;exact k _ _ _ ((E.mono s).own hp l (ZcW h1 h2 h3) hn)
def ZiJ(ε:Env->Option D)(δ:Env):Option Out:=match ε δ with
 |some _=>some (.nx δ)
 |none=>none
def YA(i:Nat)(ε:Env->Option D)(δ:Env):Option Out:=match Za i δ with
 |some (.lst xs)=>match ε δ with
  |some d=>if xs.length<sizeLine then some (.nx (δ.set i (some (.lst (xs++[d])))))else none
  |none=>none
 |_=>none
theorem V3{K:PySem.W.Frag}{te:TE}{ε:Env->Option D}(i:Nat)(hi:ow.contains i=true)(h:VE G ow te .cl ε):VS G ow ow owB owC (Uv (tBM K "list" rAppend (YR i) (Xp te tNil))) (YA i ε):=λH0 av A σ H δ E o e De k=>by
 unfold YA at e;cases hv:Za i δ with
 |none=>rw [hv]at e;cases e
 |some x=>
  rw [hv]at e;cases x<;>first|(cases e;done)|skip
  rename_i xs;dsimp only at e;cases he:ε δ with
  |none=>rw [he]at e;cases e
  |some d=>
   rw [he]at e;dsimp only at e
   by_cases hz:xs.length<sizeLine
   · rw [if_pos hz]at e
     cases e;have hi':i∈ow:=by simpa using hi
     cases hA:A i with
     |none=>exact absurd hA (E.dom' i hi')
     |some a=>
      obtain⟨v,h1,_,h3⟩:=E.var i _ (Xj hv);obtain⟨rfl,vs,q1,q2⟩:=h3 a hA;refine⟨_,h1,.inl ⟨rfl,vs,SqL.of q1⟩,h H0 av A σ H δ E d he _ λv H' s r => ?_⟩;have E':=E.mono s;have q1':=s _ _ q1;refine⟨a,vs,v,rfl,rfl,q1',by rw [<-q2.length];exact hz,k A σ _ (E'.put hA (Xj hv) (λb o hb e=>by rw [Zz hb];exact e) (by rw [ZO];exact λz=>by cases z) ⟨_,ZO,?_⟩)⟩
      have ex:∀b o,¬AV av A b->H' b=some o->upd H' a (.lst (vs++[v])) b=some o:=λb o n e=>by
       rw [Zz λz=>n (.inr ⟨i,by rw [z];exact hA⟩)];exact e
      exact((q2.same s).append (.cons (RepT.r r) .nil)).ext ex
   · rw [if_neg hz]at e;cases e
theorem VS.frz{t:TS}{φ:Env->Option Out}(i:Nat)(h:VS G ow1 owN owB owC t φ)(hn:G.2 i=none)(h1:sub ow1 ow=true)(h2:ow1.contains i=false)(h3:sub ow (i::ow1)=true):VS G ow owN owB owC t φ:=λH0 av A σ H δ E o e De k=>
 h H0 av _ σ H δ (E.freeze i (ZaE h1 h2 h3) hn) o e De k
def Zw(i:Nat)(d:D)(δ:Env):Option Env:=some (δ.set i (some d))
theorem Yg(i:Nat)(hi:ow.contains i=false)(hn:G.2 i=none):VG G ow ow (Y8 i) (Zw i):=λH0 av A σ H δ E d v r δ' e Q k=>by
 cases e
 exact k _ _ H (Same.refl H) (E.set r (λj=>by
  have:i∉ow:=by simpa using hi
  exact⟨λh=>⟨h,λz=>this (z▸h)⟩,λh=>h.1⟩) hn)
def VGs(G:Cn)(ow ow':List Nat)(g:TGs)(γ:List D->Env->Option Env):Prop:=
 ∀H0 av A σ H δ,ER G ow H0 av A σ H δ->∀ds vs,RepL G.1 (AV av A) H ds vs->∀δ',γ ds δ=some δ'->∀Q:L2.St->Hp->Prop,(∀A' σ' H',Same H H'->(∀b,AV av A' b->AV av A b)->ER G ow' H0 av A' σ' H' δ'->Q σ' H')->g vs σ H Q
def gsNil(ds:List D)(δ:Env):Option Env:=match ds with
 | []=>some δ
 |_=>none
theorem Qm:VGs G ow ow gNil gsNil:=λH0 av A σ H δ E ds vs r δ' e Q k=>by
 cases ds with
 |nil=>cases e;exact⟨r.nil_of,k A σ H (Same.refl H) (λ_ z=>z) E⟩
 |cons _ _=>cases e
def ZJ(i:Nat)(γs:List D->Env->Option Env)(ds:List D)(δ:Env):Option Env:=match ds with
 |d::r=>γs r (δ.set i (some d))
 | []=>none
theorem XG{gs:TGs}{γs:List D->Env->Option Env}(i:Nat)(hi:ow.contains i=false)(hn:G.2 i=none)(h:VGs G ow ow gs γs):VGs G ow ow (Zir (Y8 i) gs) (ZJ i γs):=λH0 av A σ H δ E ds vs r δ' e Q k=>by
 cases ds with
 |nil=>cases e
 |cons d ds=>
  obtain⟨v,vr,rfl,r1,r2⟩:=r.uncons;refine⟨v,vr,rfl,?_⟩
  have less:∀b,AV av (λj=>if j=i then none else A j) b->AV av A b:=λb z=>by
   rcases z with z|⟨j,z⟩
   · exact .inl z
   · by_cases e:j=i
     · simp [e]at z
     · simp [e]at z;exact .inr ⟨j,z⟩
  have E1:ER G ow H0 av (λj=>if j=i then none else A j) (σ.set i (some v)) H (δ.set i (some d)):=E.set r1 (λj=>by
   have:i∉ow:=by simpa using hi
   exact⟨λh=>⟨h,λz=>this (z▸h)⟩,λh=>h.1⟩) hn
  exact h H0 av _ _ H _ E1 ds vr (r2.av λb z => .inl (less b z)) δ' e Q λA' σ' H' s l E'=>k A' σ' H' s (λb z=>less b (l b z)) E'
def Yu(n:Nat)(γs:List D->Env->Option Env)(d:D)(δ:Env):Option Env:=match d with
 | .tup ds=>if ds.length=n then γs ds δ else none
 |_=>none
theorem Qn{K:PySem.W.Frag}{n:Nat}{gs:TGs}{γs:List D->Env->Option Env}(h:VGs G ow ow gs γs):VG G ow ow (Zke K n gs) (Yu n γs):=λH0 av A σ H δ E d v r δ' e Q k=>by
 cases d<;>first|(cases e;done)|skip
 rename_i ds;dsimp only [Yu]at e
 by_cases hz:ds.length=n
 · rw [if_pos hz]at e
   unfold Rep at r;obtain⟨a,vs,rfl,_,rd,l⟩:=r;exact⟨a,vs,rfl,SqT.of rd,by rw [<-l.length];exact hz,h H0 av A σ H δ E ds vs l δ' e Q λA' σ' H' s _ E'=>k A' σ' H' s E'⟩
 · rw [if_neg hz]at e;cases e
def Vv(cA:Kn)(iv:Addr->Prop)(J:It)(xs:List D)(H0:Hp):Prop:=∀H,Same H0 H ->
 (∀i,i<xs.length->J.go i H) /\
 (∀(i:Nat)x v H',xs[i]? = some x->J.yld i H v H'->Same H H'/\∀av':Addr->Prop,(∀b,av' b->H b≠none)->(∀b,av' b->iv b\/H0 b=none)->Rep cA av' H' x v) /\
 (∀i,xs.length<=i->J.stop i H)
def VI(G:Cn)(ow:List Nat)(wi:TI)(ι:Env->Option (List D)):Prop:=
 ∀H0 av A σ H δ,ER G ow H0 av A σ H δ->∀xs,ι δ=some xs->∀R:It->Hp->Prop,(∀J H1,Same H H1->Vv G.1 (AV av A) J xs (DL.cut A H1)->R J H1)->wi σ H R
def Z0(γ:D->Env->Option Env)(φ:Env->Option Out):List D->Env->Option Out
 | [],δ=>some (.nx δ)
 |x::r,δ=>match γ x δ with
  |none=>none
  |some δ1=>match φ δ1 with
   |none=>none
   |some (.nx δ2)=>Z0 γ φ r δ2
   |some (.ct δ2)=>Z0 γ φ r δ2
   |some (.bk δ2)=>some (.nx δ2)
   |some (.rt d)=>some (.rt d)
def Yv(ι:Env->Option (List D))(γ:D->Env->Option Env)(φ:Env->Option Out)(δ:Env):Option Out:=match ι δ with
 |some xs=>Z0 γ φ xs δ
 |none=>none
theorem UB{wi:TI}{g:TG}{tb:TS}{ι:Env->Option (List D)}{γ:D->Env->Option Env}{φ:Env->Option Out}(hi:VI G ow wi ι)(hg:VG G ow ow g γ)(hb:VS G ow ow ow ow tb φ):VS G ow ow owB owC (VW wi g tb) (Yv ι γ φ):=λH0 av A σ H δ E o e De k=>by
 unfold Yv at e;cases he:ι δ with
 |none=>rw [he]at e;cases e
 |some xs=>
  rw [he]at e;have e:Z0 γ φ xs δ=some o:=e;refine hi H0 av A σ H δ E xs he _ λJ H1 s1 W => ?_
  have E1:=E.mono s1;refine⟨λi m σ' H'=>m=xs.length-i/\i<=xs.length/\∃A' δ',ER G ow (DL.cut A H1) av A' σ' H' δ'/\Z0 γ φ (xs.drop i) δ'=some o,⟨xs.length,by simp,Nat.zero_le _,A,δ,E1.cut,e⟩,?_⟩
  rintro i m σ' H' ⟨rfl,hle,A',δ',E',e'⟩
  obtain⟨w1,w2,w3⟩:=W H' E'.same
  by_cases hlt:i<xs.length
  · refine .inr ⟨w1 i hlt,λσ2 H2=>∃A2 δ2,ER G ow (DL.cut A H1) av A2 σ2 H2 δ2/\Z0 γ φ (xs.drop (i+1)) δ2=some o,λσ2 H2 ⟨A2,δ2,E2,e2⟩=>⟨xs.length-(i+1),by omega,rfl,hlt,A2,δ2,E2,e2⟩,λv H2 y => ?_⟩
    have hx:xs[i]? = some xs[i]:=List.getElem?_eq_getElem hlt;obtain⟨s2,rep⟩:=w2 i _ v H2 hx y;have E2:=E'.mono s2
    have rep':Rep G.1 (AV av A') H2 xs[i] v:=rep _ E'.avl λb z=>by
     rcases z with z|⟨j,z⟩
     · exact .inl (.inl z)
     · exact .inr (E'.fr j b z)
    rw [List.drop_eq_getElem_cons hlt]at e';unfold Z0 at e';cases hγ:γ xs[i] δ' with
    |none=>rw [hγ]at e';cases e'
    |some δ1=>
     rw [hγ]at e';dsimp only at e';refine hg _ av A' σ' H2 δ' E2 _ v rep' δ1 hγ _ λA3 σ3 H3 s3 E3 => ?_
     cases hφ:φ δ1 with
     |none=>rw [hφ]at e';cases e'
     |some o1=>
      rw [hφ]at e';refine hb _ av A3 σ3 H3 δ1 E3 o1 hφ _ ?_;cases o1 with
      |nx δ2=>exact λA4 σ4 H4 E4=>⟨A4,δ2,E4,e'⟩
      |ct δ2=>exact λA4 σ4 H4 E4=>⟨A4,δ2,E4,e'⟩
      |bk δ2=>cases e';exact λA4 σ4 H4 E4=>k A4 σ4 H4 (E1.uncut E4)
      |rt d=>cases e';exact λv H4 s4 r4=>k v H4 (E1.sub0.trans s4) r4
  · have ei:i=xs.length:=by omega
    subst ei;rw [List.drop_length]at e';cases e';exact .inl ⟨w3 _ (Nat.le_refl _),k A' σ' H' (E1.uncut E')⟩
def YU(τ:Env->Option Bool)(φ:Env->Option Out):Nat->Env->Option Out
 |0,_=>none
 |n+1,δ=>match τ δ with
  |none=>none
  |some false=>some (.nx δ)
  |some true=>match φ δ with
   |none=>none
   |some (.nx δ2)=>YU τ φ n δ2
   |some (.ct δ2)=>YU τ φ n δ2
   |some (.bk δ2)=>some (.nx δ2)
   |some (.rt d)=>some (.rt d)
theorem JB{τ:Env->Option Bool}{φ:Env->Option Out}:∀(n k:Nat)(δ:Env)(o:Out),YU τ φ n δ=some o->YU τ φ (n+k) δ=some o
 |0,_,_,_,h=>by cases h
 |n+1,k,δ,o,h=>by
  rw [Nat.add_right_comm];unfold YU at h ⊢;cases ht:τ δ with
  |none=>rw [ht]at h;cases h
  |some b=>
   rw [ht]at h;cases b with
   |false=>exact h
   |true=>
    dsimp only at h ⊢;cases hp:φ δ with
    |none=>rw [hp]at h;cases h
    |some o1=>
     rw [hp]at h;cases o1 with
     |nx δ2=>exact JB n k δ2 o h
     |ct δ2=>exact JB n k δ2 o h
     |bk δ2=>exact h
     |rt d=>exact h
open Classical in
noncomputable def Xm(τ:Env->Option Bool)(φ:Env->Option Out)(δ:Env):Option Out:=if h:∃n o,YU τ φ n δ=some o then YU τ φ (Classical.choose h) δ else none
theorem Zfb{τ:Env->Option Bool}{φ:Env->Option Out}{δ:Env}{n:Nat}{o:Out}(h:YU τ φ n δ=some o):Xm τ φ δ=some o:=by
 have hx:∃n o,YU τ φ n δ=some o:=⟨n,o,h⟩
 unfold Xm;rw [dif_pos hx];obtain⟨o',ho'⟩:=Classical.choose_spec hx;have h1:=JB _ n δ o' ho';have h2:=JB _ (Classical.choose hx) δ o h;rw [Nat.add_comm,h2]at h1;rw [ho',h1]
theorem ZaR{τ:Env->Option Bool}{φ:Env->Option Out}{δ:Env}{o:Out}(h:Xm τ φ δ=some o):∃n,YU τ φ n δ=some o:=by
 unfold Xm at h
 split at h
 · exact⟨_,h⟩
 · cases h
theorem Zbd{c:TT}{tb:TS}{τ:Env->Option Bool}{φ:Env->Option Out}(hc:VT G ow c τ)(hb:VS G ow ow ow ow tb φ):VS G ow ow owB owC (ZdU c tb) (Xm τ φ):=λH0 av A σ H δ E o e De k=>by
 obtain⟨n,e⟩:=ZaR e;refine⟨λm σ' H'=>∃A' δ',ER G ow H0 av A' σ' H' δ'/\YU τ φ m δ'=some o,⟨n,A,δ,E,e⟩,?_⟩
 rintro m σ' H' ⟨A',δ',E',e'⟩
 cases m with
 |zero=>cases e'
 |succ m=>
  unfold YU at e';cases ht:τ δ' with
  |none=>rw [ht]at e';cases e'
  |some b=>
   rw [ht]at e';refine hc H0 av A' σ' H' δ' E' b ht _ λH2 s2 => ?_
   have E2:=E'.mono s2;cases b with
   |false=>cases e';exact Vk (k A' σ' H2 E2)
   |true=>
    dsimp only at e';refine Vl ⟨λσ3 H3=>∃A3 δ3,ER G ow H0 av A3 σ3 H3 δ3/\YU τ φ m δ3=some o,λσ3 H3 ⟨A3,δ3,E3,e3⟩=>⟨m,Nat.lt_succ_self _,A3,δ3,E3,e3⟩,?_⟩;cases hφ:φ δ' with
    |none=>rw [hφ]at e';cases e'
    |some o1=>
     rw [hφ]at e';refine hb H0 av A' σ' H2 δ' E2 o1 hφ _ ?_;cases o1 with
     |nx δ2=>exact λA4 σ4 H4 E4=>⟨A4,δ2,E4,e'⟩
     |ct δ2=>exact λA4 σ4 H4 E4=>⟨A4,δ2,E4,e'⟩
     |bk δ2=>cases e';exact k
     |rt d=>cases e';exact k
end
end DL
namespace DL
open PySem PySem.Spec L2
section
variable{cA:Kn}{G:Cn}{ow owN owB owC:List Nat}
def ZH(ε:Env->Option D)(δ:Env):Option (List D):=match ε δ with
 |some (.lst xs)=>some xs
 |some (.tup xs)=>some xs
 |some (.str cs)=>some (cs.map λc => .str [c])
 |_=>none
theorem Rep.cut{av:Addr->Prop}{A:Nat->Option Addr}{H:Hp}{d:D}{v:V}(h:Rep cA (AV av A) H d v):Rep cA (AV av A) (DL.cut A H) d v:=h.ext λb o n e=>by
 rw [Vu λ⟨i,z⟩=>n (.inr ⟨i,z⟩)];exact e
theorem RepL.cut{av:Addr->Prop}{A:Nat->Option Addr}{H:Hp}{d:List D}{v:List V}(h:RepL cA (AV av A) H d v):RepL cA (AV av A) (DL.cut A H) d v:=h.ext λb o n e=>by
 rw [Vu λ⟨i,z⟩=>n (.inr ⟨i,z⟩)];exact e
theorem Za1{iv:Addr->Prop}{H0:Hp}{a:Addr}{vs:List V}{xs:List D}(rd:SqL cA.K H0 a vs)(l:RepL cA iv H0 xs vs):Vv cA iv (Itl cA.K a) xs H0:=λH s=>by
 have rd':SqL cA.K H a vs:=s.seq rd;refine⟨λi hi => ?_,λi x v H' hx y => ?_,λi hi=>⟨vs,rd',by rw [<-l.length];exact hi⟩⟩
 · obtain⟨v,hv,_⟩:=l.get (List.getElem?_eq_getElem hi)
   exact⟨vs,v,rd',hv⟩
 · obtain⟨rfl,hy⟩:=y
   obtain⟨v',hv,r⟩:=l.get hx;rw [hy vs rd']at hv;cases hv;exact⟨Same.refl _,λav' _ h2=>(r.av h2).same s⟩
theorem ZbD{K:PySem.W.Frag}{iv:Addr->Prop}{H0:Hp}{a:Addr}{vs:List V}{xs:List D}(rd:H0 a=some (.tup vs))(l:RepL cA iv H0 xs vs):Vv cA iv (Itt K a) xs H0:=λH s=>by
 have rd':SqT K H a vs:=SqT.of (s _ _ rd);refine⟨λi hi => ?_,λi x v H' hx y => ?_,λi hi=>⟨vs,rd',by rw [<-l.length];exact hi⟩⟩
 · obtain⟨v,hv,_⟩:=l.get (List.getElem?_eq_getElem hi)
   exact⟨vs,v,rd',hv⟩
 · obtain⟨rfl,hy⟩:=y
   obtain⟨v',hv,r⟩:=l.get hx;rw [hy vs rd']at hv;cases hv;exact⟨Same.refl _,λav' _ h2=>(r.av h2).same s⟩
theorem ZbE{iv:Addr->Prop}{H0:Hp}{cs:List Nat}:Vv cA iv (Its cs) (cs.map λc => .str [c]) H0:=λH s=>by
 refine⟨λi hi=>(show i<cs.length by simpa using hi),λi x v H' hx y => ?_,λi hi=>(show cs.length<=i by simpa using hi)⟩;obtain⟨rfl,c,hc,rfl⟩:=y;rw [List.getElem?_map,hc]at hx;cases hx;exact⟨Same.refl _,λ_ _ _=>rfl⟩
theorem YN{tl:TE}{ε:Env->Option D}(h:VE G ow tl .cl ε):VI G ow (VZ G.1.K tl) (ZH ε):=λH0 av A σ H δ E xs e R k=>by
 unfold ZH at e;cases he:ε δ with
 |none=>rw [he]at e;cases e
 |some d=>
  rw [he]at e;refine h H0 av A σ H δ E d he _ λv H1 s r => ?_
  cases d<;>first|(cases e;done)|skip
  · cases e
    exact .inr (.inr ⟨_,r,k _ H1 s ZbE⟩)
  · cases e
    obtain⟨a,vs,rfl,na,rd,l⟩:=r;exact .inl ⟨a,vs,rfl,rd,k _ H1 s (Za1 (Ju na rd λb o n e=>by rw [Vu λ⟨i,z⟩=>n (.inr ⟨i,z⟩)];exact e) l.cut)⟩
  · cases e
    obtain⟨a,vs,rfl,na,rd,l⟩:=r;exact .inr (.inl ⟨a,vs,rfl,SqT.of rd,k _ H1 s (ZbD (by rw [Vu λ⟨i,z⟩=>na (.inr ⟨i,z⟩)];exact rd) l.cut)⟩)
def Y3(lo c:Int)(n:Nat):List D:=(List.range n).map λk => .int (lo+(k:Nat)*c)
theorem ZaF{iv:Addr->Prop}{H0:Hp}{lo:Int}{n:Nat}:Vv cA iv (Itr lo n) (Y3 lo 1 n) H0:=λH s=>by
 refine⟨λi hi=>(show i<n by simpa [Y3]using hi),λi x v H' hx y => ?_,λi hi=>(show n<=i by simpa [Y3]using hi)⟩;obtain⟨rfl,rfl⟩:=y;have hi:i<n:=by have:=(List.getElem?_eq_some_iff.mp hx).1;simpa [Y3]using this
 have:x = .int (lo+i):=by
  unfold Y3 at hx;rw [List.getElem?_map,List.getElem?_range hi]at hx;have:=Option.some.inj hx;rw [<-this];show D.int (lo+(i:Int)*1)=_;rw [Int.mul_one]
 subst this;exact⟨Same.refl _,λ_ _ _=>rfl⟩
def Z7(α:Env->Option (List D))(δ:Env):Option (List D):=match α δ with
 |some [.int j]=>if -(2 ^ 62)<=j/\j<2 ^ 62 then some (Y3 0 1 j.toNat)else none
 |some [.int i,.int j]=>if -(2 ^ 62)<=i/\i<2 ^ 62 /\ -(2 ^ 62)<=j/\j<2 ^ 62 then some (Y3 i 1 (j-i).toNat)else none
 |some [.int i,.int j,.int c]=>if c≠0/\c.natAbs<1073741824/\Builtin.Range.small i j c=true then some (Y3 i c (Builtin.Range.rangeSize i j c).toNat)else none
 |_=>none
theorem ql1{av:Addr->Prop}{A:Nat->Option Addr}{H:Hp}{q:Ql}{x:Int}{vs:List V}(h:RepQL cA av A H q [.int x] vs):vs=[.int x]:=by
 obtain⟨v,r,rfl,h1,h2⟩:=h;have:=h1.any;cases(show v=_ from this);cases(show r=[]from h2);rfl
theorem ql2{av:Addr->Prop}{A:Nat->Option Addr}{H:Hp}{q:Ql}{x y:Int}{vs:List V}(h:RepQL cA av A H q [.int x,.int y] vs):vs=[.int x,.int y]:=by
 obtain⟨v,r,rfl,h1,h2⟩:=h;have:=h1.any;cases(show v=_ from this);rw [ql1 h2]
theorem Vw{ta:TA}{q:Ql}{a:Env->Option (List D)}(h:VA G ow ta q a)(hl:∀δ ds,a δ=some ds->ds.length=1):VI G ow (ZgX ta) (Z7 a):=λH0 av A σ H δ E xs e R k=>by
 unfold Z7 at e;cases he:a δ with
 |none=>rw [he]at e;cases e
 |some ds=>
  rw [he]at e;refine h H0 av A σ H δ E ds he _ λvs H1 s r => ?_
  have hln:=hl δ ds he
  split at e
  · rename_i j he2
    cases he2
    by_cases hz : -(2 ^ 62)<=j/\j<2 ^ 62
    · rw [if_pos hz]at e
      cases e;exact⟨j,ql1 r,hz.1,hz.2,k _ H1 s ZaF⟩
    · rw [if_neg hz]at e;cases e
  · rename_i he2;cases he2;simp at hln
  · rename_i he2;cases he2;simp at hln
  · cases e
theorem ZhA{δ:Env}{ds:List D}(h:eNil δ=some ds):ds.length=0:=by cases h;rfl
theorem ZcX{a:Env->Option D}{r:Env->Option (List D)}{n:Nat}(hr:∀δ ds,r δ=some ds->ds.length=n):∀δ ds,Zb a r δ=some ds->ds.length=n+1:=λδ ds h=>by
 unfold Zb at h;cases ha:a δ with
 |none=>rw [ha]at h;cases h
 |some x=>
  rw [ha]at h;cases hr':r δ with
  |none=>rw [hr']at h;cases h
  |some xs=>rw [hr']at h;cases h;rw [List.length_cons,hr δ xs hr']
theorem XU{a:Env->Option D}:∀δ ds,Zb a eNil δ=some ds->ds.length=1:=ZcX λ_ _=>ZhA
theorem Zmu{a b:Env->Option D}:∀δ ds,Zb a (Zb b eNil) δ=some ds->ds.length=2:=ZcX XU
def YO(n:Nat)(δ:Env)(js:List Nat):Env:=List.replicate n none++js.map λj=>(δ[j]?).getD none
def YB(γ:D->Env->Option Env)(τ:Env->Option Bool)(ε:Env->Option D)(δ0:Env):List D->Option (List D)
 | []=>some []
 |x::r=>match γ x δ0 with
  |none=>none
  |some δ1=>match τ δ1 with
   |none=>none
   |some false=>YB γ τ ε δ0 r
   |some true=>match ε δ1 with
    |none=>none
    |some y=>match YB γ τ ε δ0 r with
     |none=>none
     |some ys=>some (y::ys)
def ZF(ι:Env->Option (List D))(γ:D->Env->Option Env)(τ:Env->Option Bool)(ε:Env->Option D)(n:Nat)(js:List Nat)(δ:Env):Option D:=match ι δ with
 |none=>none
 |some xs=>match YB γ τ ε (YO n δ js) xs with
  |none=>none
  |some ys=>if ys.length<=sizeLine then some (.lst ys)else none
theorem ER.blk{H0 H:Hp}{av:Addr->Prop}{A:Nat->Option Addr}{σ:L2.St}{δ:Env}(n:Nat)(js:List Nat)(hjs:js.all (λj => !ow.contains j)=true)(E:ER G ow H0 av A σ H δ) :
 ER ⟨G.1,λ_=>none⟩ [] H (AV av A) (λ_=>none) (L2.blk n σ js) H (YO n δ js):=by
 refine⟨Same.refl H,E.avl,λ_ _ z=>(by cases z),λ_ _ _ z=>(by cases z),λ_ _ z=>(by cases z),λ_ z=>absurd rfl z,λ_ z=>(by cases z),?_,λ_ _ z=>(by cases z),λ_ _ z=>(by cases z),λi d e => ?_⟩
 · unfold L2.blk YO XR
   rw [List.length_append,List.length_append,List.length_replicate,List.length_replicate,List.length_map,List.length_map]
 · unfold YO at e
   by_cases hi:i<n
   · rw [List.getElem?_append_left (by simpa using hi),List.getElem?_replicate,if_pos hi]at e
     cases e
   · rw [List.getElem?_append_right (by simpa using hi),List.length_replicate,List.getElem?_map]at e
     cases hj:js[i-n]? with
     |none=>rw [hj]at e;cases e
     |some j=>
      rw [hj]at e;have e':(δ[j]?).getD none=some d:=Option.some.inj e
      have e2:δ[j]? = some (some d):=by
       cases q:δ[j]? with
       |none=>rw [q]at e';cases e'
       |some z=>rw [q]at e';exact congrArg some e'
      obtain⟨v,h1,h2,_⟩:=E.var j d e2
      have hjo:A j=none:=by
       cases q:A j with
       |none=>rfl
       |some a=>
        have h3:=E.dom j (by rw [q];exact λz=>by cases z);have h4:=List.all_eq_true.mp hjs j (List.mem_of_getElem? hj);simp at h4;exact absurd h3 h4
      refine⟨v,?_,λ_=>(h2 hjo).av λb z => ?_,λ_ z=>(by cases z)⟩
      · unfold L2.blk XR
        rw [List.getElem?_append_right (by simpa using hi),List.length_replicate,List.getElem?_map,hj];show some ((σ[j]?).getD none)=_;rw [h1];rfl
      · rcases z with z|⟨_,z⟩
        · exact .inl z
        · cases z
theorem YC {wi:TI} {g:TG} {tt:TT} {te:TE} {n:Nat} {js:List Nat} {ι:Env->Option (List D)} {γ:D->Env->Option Env} {τ:Env->Option Bool} {ε:Env->Option D}
 (hjs:js.all (λj => !ow.contains j)=true) (hi:VI G ow wi ι) (hg:VG ⟨G.1,λ_=>none⟩ [] [] g γ) (ht:VT ⟨G.1,λ_=>none⟩ [] tt τ) (he:VE ⟨G.1,λ_=>none⟩ [] te .cl ε):VF G ow (QP wi g tt te n js) (ZF ι γ τ ε n js):=λH0 av A σ H δ E d e Q k=>by
 unfold ZF at e;cases hι:ι δ with
 |none=>rw [hι]at e;cases e
 |some xs=>
  rw [hι]at e;dsimp only at e;cases hc:YB γ τ ε (YO n δ js) xs with
  |none=>rw [hc]at e;cases e
  |some full=>
   rw [hc]at e;dsimp only at e
   by_cases hz:full.length<=sizeLine
   · rw [if_pos hz]at e
     have ed:D.lst full=d:=Option.some.inj e;refine hi H0 av A σ H δ E xs hι _ λJ H1 s1 W => ?_
     have E1:=E.mono s1
     refine⟨λi m ys H'=>m=xs.length-i/\i<=xs.length/\Same H1 H'/\∃done rest,RepL G.1 (AV av A) H' done ys/\YB γ τ ε (YO n δ js) (xs.drop i)=some rest/\done++rest=full,
      ⟨xs.length,by simp,Nat.zero_le _,Same.refl _,[],full,.nil,hc,rfl⟩,?_⟩
     rintro i m ys H' ⟨rfl,hle,s',done,rest,rl,hr,hf⟩
     have E':=E1.mono s';have sc:Same (DL.cut A H1) H':=λb o z=>s' b o (JA z).1
     obtain⟨w1,w2,w3⟩:=W H' sc
     by_cases hlt:i<xs.length
     · refine .inr ⟨w1 i hlt,λv H2 y => ?_⟩
       have hx:xs[i]? = some xs[i]:=List.getElem?_eq_getElem hlt;obtain⟨s2,rep⟩:=w2 i _ v H2 hx y;have rep':Rep G.1 (AV av A) H2 xs[i] v:=rep _ E'.avl λb z => .inl z
       have E2:=E'.mono s2;have EB:ER ⟨G.1,λ_=>none⟩ [] H2 (AV av A) (λ_=>none) (L2.blk n σ js) H2 (YO n δ js):=E2.blk n js hjs
       have triv:∀(A':Nat->Option Addr){σ':L2.St}{H3:Hp}{δ':Env},ER ⟨G.1,λ_=>none⟩ [] H2 (AV av A) A' σ' H3 δ'->∀b,AV (AV av A) A' b ↔ AV av A b:=λA' {σ' H3 δ'} E3 b=>by
        constructor
        · rintro(z|⟨j,z⟩)
          · exact z
          · have:=E3.dom j (by rw [z];exact λz=>by cases z)
            cases this
        · exact λz => .inl z
       rw [List.drop_eq_getElem_cons hlt]at hr;unfold YB at hr;cases hγ:γ xs[i] (YO n δ js)with
       |none=>rw [hγ]at hr;cases hr
       |some δ1=>
        rw [hγ]at hr;dsimp only at hr;refine hg _ _ _ _ H2 _ EB _ v (rep'.av λb z => .inl ((triv _ EB b).mp z)) δ1 hγ _ λA3 σ3 H3 s3 E3 => ?_
        cases hτ:τ δ1 with
        |none=>rw [hτ]at hr;cases hr
        |some c=>
         rw [hτ]at hr;refine ht _ _ A3 σ3 H3 δ1 E3 c hτ _ λH4 s4 => ?_
         have E4:=E3.mono s4;cases c with
         |false=>
          exact Vk ⟨xs.length-(i+1),by omega,rfl,hlt,(s'.trans s2).trans (s3.trans s4),done,rest,rl.same ((s2.trans s3).trans s4),hr,hf⟩
         |true=>
          dsimp only at hr;cases hε:ε δ1 with
          |none=>rw [hε]at hr;cases hr
          |some yd=>
           rw [hε]at hr;dsimp only at hr;cases hr':YB γ τ ε (YO n δ js) (xs.drop (i+1))with
           |none=>rw [hr']at hr;cases hr
           |some rest'=>
            rw [hr']at hr;have hrr:yd::rest'=rest:=Option.some.inj hr;subst hrr;refine Vl (he _ _ A3 σ3 H4 δ1 E4 yd hε _ λvy H5 s5 r5 => ?_);have sall:Same H' H5:=((s2.trans s3).trans s4).trans s5;refine⟨?_,xs.length-(i+1),by omega,rfl,hlt,s'.trans sall,done++[yd],rest',(rl.same sall).append (.cons ((RepT.r r5).av λb z => .inl ((triv _ E4 b).mpr z)) .nil),hr',by rw [<-hf];simp⟩
            have:=congrArg List.length hf;rw [List.length_append,List.length_cons]at this;have:=rl.length;omega
     · have ei:i=xs.length:=by omega
       subst ei;rw [List.drop_length]at hr;cases hr;refine .inl ⟨w3 _ (Nat.le_refl _),λp hp=>k p ys full H' (s1.trans s') hp (by rw [<-hf,List.append_nil];exact rl) ed.symm⟩
   · rw [if_neg hz]at e;cases e
def spD(cA:Kn)(n:Nat)(m:List D->Option D):Sp:=λvs H Q _=>∃av ds d,(∀a,av a->H a≠none)/\RepL cA av H ds vs/\ds.length=n/\m ds=some d/\∀v H',Same H H'->Rep cA av H' d v->Q v H'
def ZB(n:Nat)(m:List D->Option D)(dds:List D)(α:Env->Option (List D))(δ:Env):Option D:=match α δ with
 |some ds=>if(ds++dds).length=n then m (ds++dds)else none
 |none=>none
def Ql.cq:Ql->Ql
 | .cl => .cl
 |_ => .dt
theorem Yd{n:Nat}{m:List D->Option D}{t:TA}{q:Ql}{α:Env->Option (List D)}{E0:XK}(dds:List D)(hd:dds.all ZE=true)(h:VA G ow t q α):VE G ow (Ziw (spD G.1 n m) (dds.map val) E0 t) q.cq (ZB n m dds α):=λH0 av A σ H δ E d e Q k=>by
 unfold ZB at e;cases he:α δ with
 |none=>rw [he]at e;cases e
 |some ds=>
  rw [he]at e;dsimp only at e
  by_cases hz:(ds++dds).length=n
  · rw [if_pos hz]at e
    refine h H0 av A σ H δ E ds he _ λvs H1 s1 r1 => ?_
    have E1:=E.mono s1;cases q with
    |cl=>exact⟨AV av A,ds++dds,d,E1.avl,r1.cl.append (.of_vals hd),hz,e,λv H' s r=>k v H' (s1.trans s) r.t⟩
    |tp=>exact⟨av,ds++dds,d,E1.avH,r1.any.append (.of_vals hd),hz,e,λv H' s r=>k v H' (s1.trans s) r.t⟩
    |dt=>exact⟨av,ds++dds,d,E1.avH,r1.any.append (.of_vals hd),hz,e,λv H' s r=>k v H' (s1.trans s) r.t⟩
  · rw [if_neg hz]at e;cases e
def run(N:Nat)(φ:Env->Option Out)(ds:List D):Option D:=match φ (ds.map some++List.replicate (N-ds.length) none)with
 |some (.rt d)=>some d
 |some (.nx _)=>some .non
 |_=>none
theorem Zfc{N:List Str}{ds:List D}{vs:List V}{av:Addr->Prop}{H:Hp}(r:RepL cA av H ds vs){i:Nat}{d:D}(h:(ds.map some++List.replicate (N.length-ds.length) none)[i]? = some (some d)) :
 ∃v,(L2.start N vs)[i]? = some (some v)/\Rep cA av H d v:=by
 by_cases hi:i<ds.length
 · rw [List.getElem?_append_left (by simpa using hi),List.getElem?_map]at h
   cases hd:ds[i]? with
   |none=>rw [hd]at h;cases h
   |some x=>
    rw [hd]at h;cases h;obtain⟨v,hv,rv⟩:=r.get hd;refine⟨v,?_,rv⟩;unfold L2.start;have:i<vs.length:=by rw [<-r.length];exact hi
    rw [List.getElem?_append_left (by simpa using this),List.getElem?_map,hv];rfl
 · rw [List.getElem?_append_right (by simpa using hi),List.getElem?_replicate]at h
   split at h<;>cases h
theorem ZfR{N:List Str}{ds:List D}{vs:List V}{av:Addr->Prop}{H:Hp}(ha:∀a,av a->H a≠none)(r:RepL cA av H ds vs) :
 ER ⟨cA,λ_=>none⟩ [] H av (λ_=>none) (L2.start N vs) H (ds.map some++List.replicate (N.length-ds.length) none):=by
 refine⟨Same.refl H,ha,λ_ _ z=>(by cases z),λ_ _ _ z=>(by cases z),λ_ _ z=>(by cases z),λ_ z=>absurd rfl z,λ_ z=>(by cases z),?_,λ_ _ z=>(by cases z),λ_ _ z=>(by cases z),λi d e => ?_⟩
 · unfold L2.start
   rw [List.length_append,List.length_append,List.length_map,List.length_map,List.length_replicate,List.length_replicate,r.length]
 · obtain⟨v,h1,h2⟩:=Zfc r e
   refine⟨v,h1,λ_=>h2.av λb z => ?_,λ_ z=>(by cases z)⟩;rcases z with z|⟨_,z⟩
   · exact .inl z
   · cases z
section
variable{P:Program}{w:World}{K:PySem.W.Frag}{mg:Str->Option Value}{base:Heap}
end
theorem Zer{vs:List V}{lo hi:Option Int}:Uw vs lo hi=cutL vs lo hi:=by
 unfold Uw cutL;have e:∀n d o,HT.sIx n d o=YF n d o:=λn d o=>by cases o<;>rfl
 rw [e,e]
theorem RepL.cutL{av:Addr->Prop}{H:Hp}{xs:List D}{vs:List V}(l:RepL cA av H xs vs)(lo hi:Option Int):RepL cA av H (L2.cutL xs lo hi) (L2.cutL vs lo hi):=by
 unfold L2.cutL;rw [l.length];exact(l.drop _).take _
def xNoP(_:Env):Option (Option Int):=some none
def xP(ε:Env->Option D)(δ:Env):Option (Option Int):=match ε δ with
 |some (.int i)=>some (some i)
 |_=>none
def VO(G:Cn)(ow:List Nat)(to:TO)(ω:Env->Option (Option Int)):Prop:=
 ∀H0 av A σ H δ,ER G ow H0 av A σ H δ->∀x,ω δ=some x->∀Q:Option Int->Hp->Prop,(∀H',Same H H'->Q x H')->to σ H Q
theorem ZhB:VO G ow tNoPart xNoP:=λH0 av A σ H δ E x e Q k=>by
 cases e;exact k H (Same.refl H)
theorem Zb7{te:TE}{q:Ql}{ε:Env->Option D}(h:VE G ow te q ε):VO G ow (Ziz te) (xP ε):=λH0 av A σ H δ E x e Q k=>by
 unfold xP at e;cases he:ε δ with
 |none=>rw [he]at e;cases e
 |some d=>
  rw [he]at e;cases d<;>first|(cases e;done)|skip
  cases e;exact h H0 av A σ H δ E _ he _ λv H' s r=>⟨_,r.any,k H' s⟩
def slD:D->Option Int->Option Int->Option D
 | .str a,lo,hi=>if a.length<=sizeLine then some (.str (L2.cutL a lo hi))else none
 | .lst xs,lo,hi=>some (.lst (L2.cutL xs lo hi))
 | .tup xs,lo,hi=>if YF xs.length 0 lo=0/\YF xs.length xs.length hi=xs.length then none else some (.tup (L2.cutL xs lo hi))
 |_,_,_=>none
def eSl(a:Env->Option D)(lo hi:Env->Option (Option Int))(δ:Env):Option D:=match a δ with
 |some x=>match lo δ with
  |some l=>match hi δ with
   |some u=>slD x l u
   |none=>none
  |none=>none
 |none=>none
theorem ZfS{a:Env->Option D}{lo hi:Env->Option (Option Int)}{δ:Env}{d:D}(h:eSl a lo hi δ=some d):∃x l u,a δ=some x/\lo δ=some l/\hi δ=some u/\slD x l u=some d:=by
 unfold eSl at h;cases ea:a δ with
 |none=>rw [ea]at h;cases h
 |some x=>
  rw [ea]at h;cases el:lo δ with
  |none=>rw [el]at h;cases h
  |some l=>
   rw [el]at h;cases eu:hi δ with
   |none=>rw [eu]at h;cases h
   |some u=>rw [eu]at h;exact⟨x,l,u,rfl,rfl,rfl,h⟩
theorem ZiK{ta:TE}{tl th:TO}{q:Ql}{a:Env->Option D}{lo hi:Env->Option (Option Int)}(hq:q = .cl\/q = .tp)(ha:VE G ow ta q a)(hl:VO G ow tl lo)(hh:VO G ow th hi):VE G ow (tSl (Zkm G.1.K) ta tl th) .cl (eSl a lo hi):=λH0 av A σ H δ E d e Q k=>by
 obtain⟨x,l,u,ex,el,eu,ed⟩:=ZfS e;refine ha H0 av A σ H δ E x ex _ λv H1 s1 r1=>hl H0 av A σ H1 δ (E.mono s1) l el _ λH2 s2=>hh H0 av A σ H2 δ ((E.mono s1).mono s2) u eu _ λH3 s3 => ?_
 have s13:=s2.trans s3;have E3:=(E.mono s1).mono s13
 have r3:RepT G.1 av (AV av A) H3 x v:=by
  have:=(r1.same s13).tp;rcases hq with rfl|rfl<;>exact this
 cases x<;>first|(cases ed;done)|skip
 · rename_i cs
   cases(show v=_ from r3);dsimp only [slD]at ed
   by_cases hz:cs.length<=sizeLine
   · rw [if_pos hz]at ed
     cases ed;exact .inl ⟨cs,rfl,hz,k _ H3 (s1.trans s13) rfl⟩
   · rw [if_neg hz]at ed;cases ed
 · cases ed
   obtain⟨p,vs,rfl,_,rd,ll⟩:=r3;refine .inr (.inl ⟨p,vs,rfl,rd,λp' hp => ?_⟩);rw [Zer];exact k _ _ ((s1.trans s13).trans (ZW hp)) ⟨p',_,rfl,λz=>(E3.avl p' z hp).elim,SqL.of ZO,(ll.cutL l u).same (ZW hp)⟩
 · rename_i xs
   dsimp only [slD]at ed
   by_cases hz:YF xs.length 0 l=0/\YF xs.length xs.length u=xs.length
   · rw [if_pos hz]at ed;cases ed
   · rw [if_neg hz]at ed
     cases ed;obtain⟨p,vs,rfl,_,rd,ll⟩:=r3;refine .inr (.inr ⟨p,vs,rfl,SqT.of rd,?_,λp' hp => ?_⟩)
     · have e:∀n d o,HT.sIx n d o=YF n d o:=λn d o=>by cases o<;>rfl
       rw [e,e,<-ll.length];exact hz
     · rw [Zer]
       exact k _ _ ((s1.trans s13).trans (ZW hp)) ⟨p',_,rfl,λz=>E3.avl p' z hp,ZO,(ll.cutL l u).same (ZW hp)⟩
def Zg2(K:PySem.W.Frag):List V->Hp->VK->Prop:=λxs H Q=>Zms K xs H Q\/∃p vs c cv b,xs=[.ref p,c]/\(∀v,RelV c v->v=cv)/\KL K p vs/\kitOne K (.type "list") cv=some b/\Q (.bl b) H
theorem ZdZ{X:Cx}{K:PySem.W.Frag}(hK:X.K=K:=by rfl):Ym X (.builtin "isinstance") (Zg2 K):=by
 subst hK;intro pins s σ H xs us Q I rs h;rcases h with h|⟨p,vs,c,cv,b,rfl,hc,⟨o,its,n,hk,h1,_⟩,e,q⟩
 · exact ZfN pins s σ H xs us Q I rs h
 · obtain⟨u,w',rfl,rx,rc⟩:=Ziv rs
   have ec:=hc _ rc;subst ec;cases(show u=Value.ref p from rx);exact PySem.W.kia_one PySem.W.kitx_list I.kIn ⟨o,I.kIn p o hk,h1⟩ e (λz=>nomatch z) λtk=>⟨.bl b,H,I.tok tk,rfl,q⟩
def kind:D->String
 | .non => "NoneType"
 | .bl _ => "bool"
 | .int _ => "int"
 | .str _ => "str"
 | .lst _ => "list"
 | .tup _ => "tuple"
 | .obj c _ _=>c
 | .dct _ _ => "dict"
 | .dtt _ _ => "dict"
def plainKinds:List String:=["NoneType", "bool", "int", "str", "list", "tuple"]
def Qo(tab:List (String×Bool)):D->Option Bool
 | .obj c _ _=>if plainKinds.contains c then none else tab.lookup c
 | .dct _ _=>none
 | .dtt _ _=>none
 |d=>tab.lookup (kind d)
def Va(tab:List (String×Bool))(a:Env->Option D)(δ:Env):Option D:=match a δ with
 |some d=>match Qo tab d with
  |some b=>some (.bl b)
  |none=>none
 |none=>none
structure ClsI(K:PySem.W.Frag)(C:Addr):Prop where
 cl:Cls K C
 ha:PySem.W.findIn K (.ref C) "__class__" = some (some (.builtin "object.__class__"))
 hn:PySem.W.specialIn K (.builtin "object.__class__") "__get__" = some (some (.builtin "getset_descriptor.__get__"))
 htk:PySem.W.takesIn K (.builtin "object.__class__")=some true
 hm:PySem.W.mroIn K C (.type "object")=some true
structure IsiOk(K:PySem.W.Frag)(cA:Kn)(cv:Value)(tab:List (String×Bool)):Prop where
 plain:∀k∈plainKinds,∀b,tab.lookup k=some b->kitOne K (.type k) cv=some b
 own:∀(c:String)b,plainKinds.contains c=false->tab.lookup c=some b->kitOne K (.ref (cA.c c)) cv=some b/\ClsI K (cA.c c)
theorem Zbe{β:Type}{c:String}{b:β}:∀{tab:List (String×β)},tab.lookup c=some b->(c,b)∈tab
 | [],h=>by simp at h
 |(c',b')::r,h=>by
  rw [List.lookup_cons]at h;cases hc:c == c' with
  |true=>
   rw [hc]at h;cases h;rw [eq_of_beq hc];exact List.mem_cons_self
  |false=>
   rw [hc]at h;exact List.mem_cons_of_mem _ (Zbe h)
theorem Zes{K:PySem.W.Frag}{cA:Kn}{cv:Value}{tab:List (String×Bool)}(h:∀p∈tab,if plainKinds.contains p.1=true then kitOne K (.type p.1) cv=some p.2 else kitOne K (.ref (cA.c p.1)) cv=some p.2/\ClsI K (cA.c p.1)):IsiOk K cA cv tab where
 plain:=λk hk b hl=>by
  have:=h _ (Zbe hl)
  rwa [if_pos (by simpa using hk)]at this
 own:=λc b hc hl=>by
  have:=h _ (Zbe hl)
  rwa [if_neg (by simpa using hc)]at this
theorem Zd0{ta:TE}{q:Ql}{a:Env->Option D}{c:V}{cv:Value}{tab:List (String×Bool)}(hc:∀v,RelV c v->v=cv)(I:IsiOk G.1.K G.1 cv tab)(ha:VE G ow ta q a) :
 VE G ow (tCB (Zg2 G.1.K) (Xp ta (Xp (tC c) tNil))) .cl (Va tab a):=λH0 av A σ H δ E d e Q k=>by
 unfold Va at e;cases he:a δ with
 |none=>rw [he]at e;cases e
 |some x=>
  rw [he]at e;dsimp only at e;cases ht:Qo tab x with
  |none=>rw [ht]at e;cases e
  |some b=>
   rw [ht]at e;cases e;refine ha H0 av A σ H δ E x he _ λv H1 s r => ?_
   have r':=r.any;have fin:∀t,TyOf G.1.K H1 v t->kitOne G.1.K t cv=some b->Zg2 G.1.K [v,c] H1 Q:=λt ty e => .inl ⟨v,c,cv,t,b,rfl,hc,ty,e,k _ H1 s rfl⟩
   cases x with
   |non=>cases(show v=_ from r');exact fin _ .non (I.plain _ (by decide) b (by exact ht))
   |bl y=>cases(show v=_ from r');exact fin _ (.bl y) (I.plain _ (by decide) b (by exact ht))
   |int y=>cases(show v=_ from r');exact fin _ (.int y) (I.plain _ (by decide) b (by exact ht))
   |str y=>cases(show v=_ from r');exact fin _ (.str _) (I.plain _ (by decide) b (by exact ht))
   |lst y=>
    unfold Rep at r';obtain⟨p,vs,rfl,_,rd,_⟩:=r';rcases rd with(rd|⟨o,rd⟩)|rd
    · exact fin _ (.lst rd) (I.plain _ (by decide) b (by exact ht))
    · exact fin _ (.frz rd) (I.plain _ (by decide) b (by exact ht))
    · exact .inr ⟨p,vs,c,cv,b,rfl,hc,rd,I.plain _ (by decide) b (by exact ht),k _ H1 s rfl⟩
   |tup y=>
    unfold Rep at r';obtain⟨p,vs,rfl,_,rd,_⟩:=r';exact fin _ (.tup rd) (I.plain _ (by decide) b (by exact ht))
   |dct ks y=>cases ht
   |dtt ks y=>cases ht
   |obj c' ks y=>
    unfold Rep at r';obtain⟨p,dx,vs,rfl,_,rd,_⟩:=r';dsimp only [Qo]at ht;cases hp:plainKinds.contains c' with
    |true=>rw [hp,if_pos rfl]at ht;cases ht
    |false=>
    rw [hp,if_neg Bool.false_ne_true]at ht;obtain⟨h1,h2⟩:=I.own c' b hp ht;exact fin _ (.ins rd h2.cl h2.ha h2.hn h2.htk h2.hm) h1
end
end DL
namespace L2
open PySem PySem.Spec
section
variable{X:Cx}
end
end L2
namespace DL
open PySem PySem.Spec L2
section
variable{cA:Kn}{G:Cn}{ow:List Nat}
def eBM(f:List Nat->List D->Option D)(a:Env->Option D)(α:Env->Option (List D))(δ:Env):Option D:=match a δ with
 |some (.str cs)=>match α δ with
  |some ds=>f cs ds
  |none=>none
 |_=>none
end
end DL
namespace L2
open PySem PySem.Spec
structure FunX(K:PySem.W.Frag)(x qual:Str)(st:Stmt)(f:Addr)(fd:FuncData):Prop where
 ex:∃(oc:Value) (od:Option Addr) (dV kV doc pm:Value) (an:Option Addr) (cdv ct:Value) (osl:Array (Option Value)),
  fd=fnOf x qual (defArgs st) (defBody st) (defScope st) dV kV doc pm an cdv ct/\K.lookup f=some ⟨oc,od,.func fd,osl⟩/\codeIn K cdv qual=true
theorem Fun.x{K:PySem.W.Frag}{x qual:Str}{st:Stmt}{f:Addr}{fd:FuncData}(F:Fun K x qual st f fd):FunX K x qual st f fd:=by
 obtain⟨oc,od,kV,doc,pm,an,cdv,ct,osl,h⟩:=F.ex;exact⟨oc,od,.none,kV,doc,pm,an,cdv,ct,osl,h⟩
section
variable{P:Program}{w:World}{K:PySem.W.Frag}{mg:Str->Option Value}{base:Heap}
theorem FunX.ok {x qual:Str} {st:Stmt} {f:Addr} {fd:FuncData} {N ps:List Str} {k:Nat} {sp:Sp} (F:FunX K x qual st f fd) (S:FnScope N ps (defScope st)) (len:∀vs H Q E,sp vs H Q E->vs.length=ps.length)
 (hbody:∀(cdv:Value)(A:Around)(outer:List Env)(s:Shared)(H:Hp)(vs:List V)(Q:VK)(E:XK),Room k (A.deeper (PyProof.Rows.envOfC qual (defScope st) s.heap.objs.size f cdv))->sp vs H Q E ->
   ∃t,PSs (X6 CX0 P w K mg base N qual (defScope st) f cdv A outer s H E).nox (defBody st) t/\t { nx:=λ_ H'=>Q .non H',rt:=Q } (start N vs) H):FnOk P w K mg base CX0 (k+1) f fd ps sp:=by
 obtain⟨oc,od,dV,kV,doc,pm,an,cdv,ct,osl,rfl,lk,hcd⟩:=F.ex;refine Ziy lk hcd S len λA outer s H vs Q E hr hsp => ?_
 obtain⟨t,h,q⟩:=hbody cdv A outer s H vs Q E hr hsp;exact⟨t,h.nox,q⟩
end
section
variable{X:Cx}
end
structure CMeth(K:PySem.W.Frag)(C:Addr)(m:Str)(f:Addr):Prop where
 ga:PySem.W.specialIn K (.ref C) "__getattribute__" = some (some (.builtin "type.__getattribute__"))
 rd:PySem.W.readsIn K C (.type "type")=true
 fc:PySem.W.findCls K (.ref C) (.type "type") m=some (.val (.ref f))
 kp:keepIn K (.ref f)=true
section
variable{X:Cx}{CX:CXT}{k:Nat}{f C:Addr}{fd:FuncData}{ps:List Str}{sp:Sp}{dvs:List V}{ds:List Value}{E:XK}{x m:Str}{p pos apos:Pos}{e o:Expr}{es:List Expr}{ta:TE}{t:TA}
end
end L2
namespace DL
open PySem PySem.Spec L2
theorem Zas{a b:String}(h:Str.ofString a=Str.ofString b):a=b:=by
 rw [Str.ofString_eq_toList,Str.ofString_eq_toList]at h
 have h1:(a.toList.map Char.toNat)=(b.toList.map Char.toNat):=by
  have:=congrArg (λs:Str=>s.cps.toList) h;simpa using this
 have inj:∀{x y:List Char},x.map Char.toNat=y.map Char.toNat->x=y:=by
  intro x
  induction x with
  |nil=>
   intro y h;cases y with
   |nil=>rfl
   |cons _ _=>cases h
  |cons c x ih=>
   intro y h;cases y with
   |nil=>cases h
   |cons d y=>
    rw [List.map_cons,List.map_cons,List.cons.injEq]at h;have:c=d:=Char.toNat_inj.mp h.1;rw [this,ih h.2]
 exact String.toList_inj.mp (inj h1)
theorem Zat(a b:String):(Str.ofString a == Str.ofString b)=(a == b):=by
 rw [Bool.eq_iff_iff,beq_iff_eq,beq_iff_eq];exact⟨Zas,λh=>by rw [h]⟩
section
variable{cA:Kn}{G:Cn}{ow owN owB owC:List Nat}
theorem ZcY{av:Addr->Prop}{H:Hp}{f:String}:∀{ks:List String}{xs:List D}{vs:List V}{d:D},RepL cA av H xs vs->(ks.zip xs).lookup f=some d->∃v,((ks.map Str.ofString).zip vs).lookup (Str.ofString f)=some v/\Rep cA av H d v
 | [],_,_,_,_,h=>by simp at h
 |k::ks,[],_,_,_,h=>by simp at h
 |k::ks,x::xs,vs,d,l,h=>by
  obtain⟨v,r,rfl,h1,h2⟩:=l.uncons;rw [List.zip_cons_cons,List.lookup_cons]at h;rw [List.map_cons,List.zip_cons_cons,List.lookup_cons,Zat];cases hk:f == k with
  |true=>rw [hk]at h;cases h;exact⟨v,rfl,h1⟩
  |false=>rw [hk]at h;exact ZcY h2 h
theorem ZcZ{f:String}:∀{ks:List String}{vs:List V},ks.contains f=false->((ks.map Str.ofString).zip vs).lookup (Str.ofString f)=none
 | [],_,_=>by simp
 |k::ks,[],_=>by simp
 |k::ks,v::vs,h=>by
  rw [List.contains_cons,Bool.or_eq_false_iff]at h;rw [List.map_cons,List.zip_cons_cons,List.lookup_cons,Zat,h.1];exact ZcZ h.2
theorem Zet{f:String}{y:V}:∀{ks:List String}{vs:List V},ks.length=vs.length->ks.contains f=false->YS (Str.ofString f) y ((ks.map Str.ofString).zip vs)=(((ks++[f]).map Str.ofString).zip (vs++[y]))
 | [],[],_,_=>rfl
 | [],_::_,h,_=>by simp at h
 |_::_,[],h,_=>by simp at h
 |k::ks,v::vs,h,hf=>by
  rw [List.contains_cons,Bool.or_eq_false_iff]at hf
  have hne:¬Str.ofString k=Str.ofString f:=λz=>by
   have:=Zas z;have h1:=hf.1;rw [this]at h1;simp at h1
  rw [List.map_cons,List.zip_cons_cons,List.cons_append,List.cons_append,List.map_cons,List.zip_cons_cons];rw [show YS (Str.ofString f) y ((Str.ofString k,v)::(ks.map Str.ofString).zip vs)=(if Str.ofString k=Str.ofString f then(Str.ofString k,y)::(ks.map Str.ofString).zip vs else(Str.ofString k,v)::YS (Str.ofString f) y ((ks.map Str.ofString).zip vs))from rfl,if_neg hne];rw [Zet (by simpa using h) hf.2]
def QW(K:PySem.W.Frag)(cA:Kn)(cls:List String)(f:String):Prop:=∀c∈cls,Cls K (cA.c c)/\NoAttr K (cA.c c) (Str.ofString f)
def ZM(cls:List String)(f:String)(a:Env->Option D)(δ:Env):Option D:=match a δ with
 |some (.obj c ks xs)=>if cls.contains c then(ks.zip xs).lookup f else none
 |_=>none
theorem YI{K:PySem.W.Frag}{ta:TE}{q:Ql}{a:Env->Option D}{cls:List String}{f:String}(F:QW K G.1 cls f)(ha:VE G ow ta q a):VE G ow (Zkh K ta (Str.ofString f)) q.it (ZM cls f a):=λH0 av A σ H δ E d e Q k=>by
 unfold ZM at e;cases he:a δ with
 |none=>rw [he]at e;cases e
 |some x=>
  rw [he]at e;cases x<;>first|(cases e;done)|skip
  rename_i c ks xs;dsimp only at e
  by_cases hc:cls.contains c=true
  · rw [if_pos hc]at e
    obtain⟨h1,h2⟩:=F c (by simpa using hc);refine ha H0 av A σ H δ E _ he _ λv H1 s r => ?_
    obtain⟨p,dx,vs,rfl,_,rd,_,l⟩:=r.tp;obtain⟨w,hw,rw'⟩:=ZcY l e;refine⟨p,_,dx,_,w,rfl,rd,h1,h2,hw,k w H1 s ?_⟩;cases q<;>exact rw'.t
  · rw [if_neg hc]at e;cases e
def Y0(i:Nat)(cls:List String)(f:String)(ε:Env->Option D)(δ:Env):Option Out:=match ε δ with
 |some d=>match Za i δ with
  |some (.obj c ks xs)=>if cls.contains c && !ks.contains f&&decide (ks.length<1000)then some (.nx (δ.set i (some (.obj c (ks++[f]) (xs++[d])))))else none
  |_=>none
 |none=>none
theorem Zd1{K:PySem.W.Frag}{te:TE}{ε:Env->Option D}{cls:List String}{f:String}(i:Nat)(hi:ow.contains i=true)(F:QW K G.1 cls f)(h:VE G ow te .cl ε):VS G ow ow owB owC (ZlR K (YR i) te (Str.ofString f)) (Y0 i cls f ε):=λH0 av A σ H δ E o e De k=>by
 unfold Y0 at e;cases he:ε δ with
 |none=>rw [he]at e;cases e
 |some d=>
  rw [he]at e;dsimp only at e;cases hv:Za i δ with
  |none=>rw [hv]at e;cases e
  |some x=>
   rw [hv]at e;cases x<;>first|(cases e;done)|skip
   rename_i c ks xs;dsimp only at e
   by_cases hz:(cls.contains c && !ks.contains f&&decide (ks.length<1000))=true
   · rw [if_pos hz]at e
     cases e;simp only [Bool.and_eq_true,decide_eq_true_eq,Bool.not_eq_true']at hz;obtain⟨⟨z1,z2⟩,z3⟩:=hz;obtain⟨h1,h2⟩:=F c (by simpa using z1);have hi':i∈ow:=by simpa using hi
     cases hA:A i with
     |none=>exact absurd hA (E.dom' i hi')
     |some a=>
      refine h H0 av A σ H δ E d he _ λy H1 s r => ?_
      have E1:=E.mono s;obtain⟨v,g1,_,g3⟩:=E1.var i _ (Xj hv);obtain⟨rfl,dx,vs,q1,q0,q2⟩:=g3 a hA;have hl:ks.length=vs.length:=q0.trans q2.length;refine⟨_,g1,a,_,dx,_,rfl,q1,h1,h2,?_,k A σ _ (E1.put hA (Xj hv) (λb o hb e=>by rw [Zz hb];exact e) (by rw [ZO];exact λz=>by cases z) ?_)⟩
      · rw [List.length_zip,List.length_map];omega
      · refine⟨dx,vs++[y],?_,by rw [List.length_append,List.length_append,q0];rfl,?_⟩
        · rw [ZO,Zet hl z2]
        · have ex : ∀ b o, ¬ AV av A b -> H1 b = some o -> upd H1 a (.ins (G.1.c c) dx (YS (Str.ofString f) y ((ks.map Str.ofString).zip vs))) b = some o := fun b o n e => by
           rw [Zz λz=>n (.inr ⟨i,by rw [z];exact hA⟩)];exact e
          exact(q2.append (.cons (RepT.r r) .nil)).ext ex
   · rw [if_neg hz]at e;cases e
def spI(cA:Kn)(n:Nat)(m:List D->Option D):Sp:=λvs H Q _=>∃(x:Addr) (r:List V) (av:Addr->Prop) (ds:List D) (d d':D),vs = .ref x::r/\(∀a,av a->H a≠none)/\¬av x/\Own cA (λa=>av a\/a=x) H d x/\RepL cA (λa=>av a\/a=x) H ds r/\(d::ds).length=n/\m (d::ds)=some d' /\
 ∀H',(∀b o,b≠x->H b=some o->H' b=some o)->Own cA (λa=>av a\/a=x) H' d' x->Q .non H'
theorem Own.live{av:Addr->Prop}{H:Hp}{d:D}{a:Addr}(h:Own cA av H d a):H a≠none:=by
 cases d with
 |lst xs=>obtain⟨vs,q,_⟩:=h;rw [q];exact λz=>by cases z
 |obj c ks xs=>obtain⟨dx,vs,q,_⟩:=h;rw [q];exact λz=>by cases z
 |dct ks xs=>obtain⟨vs,q,_⟩:=h;rw [q];exact λz=>by cases z
 |dtt ks xs=>obtain⟨vs,q,_⟩:=h;rw [q];exact λz=>by cases z
 |_=>exact h.elim
theorem Own.av{av av':Addr->Prop}{H:Hp}{d:D}{a:Addr}(k:∀b,av' b->av b\/H b=none)(h:Own cA av H d a):Own cA av' H d a:=by
 cases d with
 |lst xs=>obtain⟨vs,q,l⟩:=h;exact⟨vs,q,l.av k⟩
 |obj c ks xs=>obtain⟨dx,vs,q,z,l⟩:=h;exact⟨dx,vs,q,z,l.av k⟩
 |dct ks xs=>obtain⟨vs,q,z,l⟩:=h;exact⟨vs,q,z,l.av k⟩
 |dtt ks xs=>obtain⟨vs,q,z,l⟩:=h;exact⟨vs,q,z,l.av k⟩
 |_=>exact h.elim
theorem Own.rep{av:Addr->Prop}{H:Hp}{d:D}{a:Addr}(n:¬av a)(h:Own cA av H d a):Rep cA av H d (.ref a):=by
 cases d with
 |lst xs=>obtain⟨vs,q,l⟩:=h;unfold Rep;exact⟨a,vs,rfl,λz=>(n z).elim,SqL.of q,l⟩
 |obj c ks xs=>obtain⟨dx,vs,q,z,l⟩:=h;unfold Rep;exact⟨a,dx,vs,rfl,n,q,z,l⟩
 |dct ks xs=>obtain⟨vs,q,z,l⟩:=h;unfold Rep;exact⟨a,vs,rfl,n,q,z,l⟩
 |dtt ks xs=>obtain⟨vs,q,z,l⟩:=h;unfold Rep;exact⟨a,vs,rfl,n,q,z,l⟩
 |_=>exact h.elim
def XV(c:String)(n:Nat)(m:List D->Option D)(dds:List D)(α:Env->Option (List D))(δ:Env):Option D:=match α δ with
 |some ds=>if(D.obj c [] []::(ds++dds)).length=n then m (.obj c [] []::(ds++dds))else none
 |none=>none
theorem JC{n:Nat}{m:List D->Option D}{t:TA}{α:Env->Option (List D)}{E0:XK}{c:String}(dds:List D)(hd:dds.all ZE=true)(h:VA G ow t .cl α):VE G ow (Zix (G.1.c c) (spI G.1 n m) (dds.map val) E0 t) .cl (XV c n m dds α):=λH0 av A σ H δ E d e Q k=>by
 unfold XV at e;cases he:α δ with
 |none=>rw [he]at e;cases e
 |some ds=>
  rw [he]at e;dsimp only at e
  by_cases hz:(D.obj c [] []::(ds++dds)).length=n
  · rw [if_pos hz]at e
    refine h H0 av A σ H δ E ds he _ λvs H1 s1 r1 x dx hx hdx hne => ?_
    have E1:=E.mono s1;have s2:Same H1 (upd (upd H1 dx (.own x)) x (.ins (G.1.c c) dx [])):=(ZW hdx).trans (ZW (by rw [Zz (Ne.symm hne)];exact hx));have nx:¬AV av A x:=λz=>E1.avl x z hx
    refine⟨x,vs++dds.map val,AV av A,ds++dds,.obj c [] [],d,rfl,λa z => ?_,nx,⟨dx,[],ZO,rfl,.nil⟩,?_,hz,e,λH' hk ho=>⟨rfl,k _ H' ?_ ?_⟩⟩
    · have:=E1.avl a z
      cases q:H1 a with
      |none=>exact absurd q this
      |some o=>rw [s2 a o q];exact λz=>by cases z
    · refine RepL.same s2 ((r1.cl.append (.of_vals hd)).av λb z => ?_)
      rcases z with z|z
      · exact .inl z
      · exact .inr (by rw [z];exact hx)
    · refine s1.trans λb o e=>hk b o (λz=>by rw [z,hx]at e;cases e) (s2 b o e)
    · exact((ho.av λb z => .inl (.inl z)).rep nx).t
  · rw [if_neg hz]at e;cases e
def ZiL(i n:Nat)(m:List D->Option D)(dds:List D)(α:Env->Option (List D))(δ:Env):Option Out:=match Za i δ with
 |some d=>match α δ with
  |some ds=>if(d::(ds++dds)).length=n then(match m (d::(ds++dds))with
   |some d'=>some (.nx (δ.set i (some d')))
   |none=>none)else none
  |none=>none
 |none=>none
def runI(N:Nat)(φ:Env->Option Out)(ds:List D):Option D:=match φ (ds.map some++List.replicate (N-ds.length) none)with
 |some (.nx δ)=>Za 0 δ
 |_=>none
section
variable{P:Program}{w:World}{K:PySem.W.Frag}{mg:Str->Option Value}{base:Heap}
theorem Zmv {x qual:Str} {st:Stmt} {f:Addr} {fd:FuncData} {N ps:List Str} {k:Nat} {φ:Env->Option Out} (F:FunX K x qual st f fd) (S:FnScope N ps (defScope st))
 (hbody:∀(cdv:Value)(A:Around)(outer:List PySem.Env)(s:Shared)(H:Hp)(E:XK)(a:Addr),Room k (A.deeper (PyProof.Rows.envOfC qual (defScope st) s.heap.objs.size f cdv)) ->
   ∃t,PSs (X6 CX0 P w K mg base N qual (defScope st) f cdv A outer s H E).nox (defBody st) t/\VS ⟨cA,λj=>if j=0 then some (.inl a)else none⟩ [0] [0] [] [] t φ):FnOk P w K mg base CX0 (k+1) f fd ps (spI cA ps.length (runI N.length φ)):=by
 refine F.ok S (λvs H Q E h => ?_) λcdv A outer s H vs Q E hr h => ?_
 · obtain⟨x,r,av,ds,d,d',rfl,_,_,_,l,hl,_⟩:=h
   rw [<-hl,List.length_cons,List.length_cons,l.length]
 · obtain⟨x,r,av,ds,d,d',rfl,ha,nx,ho,l,hl,hm,q⟩:=h
   obtain⟨t,ht,hv⟩:=hbody cdv A outer s H E x hr;refine⟨t,ht,?_⟩;unfold runI at hm;cases hφ:φ ((d::ds).map some++List.replicate (N.length-(d::ds).length) none)with
   |none=>rw [hφ]at hm;cases hm
   |some o=>
    rw [hφ]at hm;cases o<;>first|(cases hm;done)|skip
    rename_i δ';have hm:Za 0 δ'=some d':=hm
    have hAV:∀b,AV av (λj=>if j=0 then some x else none) b ↔ av b\/b=x:=λb=>by
     constructor
     · rintro(z|⟨j,z⟩)
       · exact .inl z
       · by_cases e:j=0
         · simp [e]at z;exact .inr z.symm
         · simp [e]at z
     · rintro(z|z)
       · exact .inl z
       · exact .inr ⟨0,by simp [z]⟩
    have E0:ER ⟨cA,λj=>if j=0 then some (.inl x)else none⟩ [0] (λb=>if b=x then none else H b) av (λj=>if j=0 then some x else none) (L2.start N (.ref x::r)) H ((d::ds).map some++List.replicate (N.length-(d::ds).length) none):=by
     refine⟨λb o e => ?_,λa z => ?_,λi a e => ?_,λi j a e1 e2 => ?_,λi a e => ?_,λi e => ?_,λi hi => ?_,?_,(λi a e=>by
      by_cases q:i=0
      · simp [q]at e;simp [q,e]
      · simp [q]at e),(λi v e=>by
      by_cases q:i=0
      · simp [q]at e
      · simp [q]at e),λi d'' e => ?_⟩
     · by_cases q:b=x
       · simp [q]at e
       · simpa [q]using e
     · have:a≠x:=λq=>nx (q▸z)
       simp [this];exact ha a z
     · by_cases q:i=0
       · simp [q]at e;simp [e]
       · simp [q]at e
     · by_cases q:i=0
       · by_cases q2:j=0
         · rw [q,q2]
         · simp [q2]at e2
       · simp [q]at e1
     · by_cases q:i=0
       · simp [q]at e;subst e;exact ho.live
       · simp [q]at e
     · by_cases q:i=0
       · simp [q]
       · simp [q]at e
     · have:i=0:=by simpa using hi
       simp [this]
     · unfold L2.start
       rw [List.length_append,List.length_append,List.length_map,List.length_map,List.length_replicate,List.length_replicate,List.length_cons,List.length_cons,l.length]
     · by_cases q:i=0
       · subst q
         have e':d=d'':=by simpa using e
         subst e'
         exact⟨.ref x,by simp [L2.start],λz=>by simp at z,λa z=>by
          simp at z;subst z;exact⟨rfl,ho.av λb z => .inl ((hAV b).mp z)⟩⟩
       · obtain⟨i,rfl⟩:∃i',i=i'+1:=⟨i-1,by omega⟩
         have e2:(ds.map some++List.replicate (N.length-(ds.length+1)) none)[i]? = some (some d''):=by simpa using e
         by_cases hi:i<ds.length
         · rw [List.getElem?_append_left (by simpa using hi),List.getElem?_map]at e2
           cases hd:ds[i]? with
           |none=>rw [hd]at e2;cases e2
           |some z=>
            rw [hd]at e2;cases e2;obtain⟨v,hv',rv⟩:=l.get hd;refine⟨v,?_,λ_=>rv.av λb z => .inl ((hAV b).mp z),λa z=>by simp at z⟩;unfold L2.start;have:i+1<(V.ref x::r).length:=by rw [List.length_cons,<-l.length];omega
            rw [List.getElem?_append_left (by simpa using this),List.getElem?_map];simp [hv']
         · rw [List.getElem?_append_right (by simpa using hi),List.getElem?_replicate]at e2
           split at e2<;>cases e2
    refine hv _ av _ _ H _ E0 _ hφ _ λA' σ' H' E' => ?_
    have hA':A' 0=some x:=E'.pin 0 x (by simp);obtain⟨v,_,_,g3⟩:=E'.var 0 d' (Xj hm);obtain⟨_,ho'⟩:=g3 x hA';refine q H' (λb o hb e=>E'.same b o (by simpa [hb]using e)) (ho'.av λb z => ?_);rcases z with z|z
    · exact .inl (.inl z)
    · exact .inl (.inr ⟨0,by rw [hA',z]⟩)
theorem ZkI {x qual:Str} {st:Stmt} {f:Addr} {fd:FuncData} {N ps:List Str} {k:Nat} {φ:Env->Option Out} (F:FunX K x qual st f fd) (S:FnScope N ps (defScope st))
 (hbody:∀(cdv:Value)(A:Around)(outer:List PySem.Env)(s:Shared)(H:Hp)(E:XK),Room k (A.deeper (PyProof.Rows.envOfC qual (defScope st) s.heap.objs.size f cdv)) ->
   ∃t,PSs (X6 CX0 P w K mg base N qual (defScope st) f cdv A outer s H E).nox (defBody st) t/\∃owN,VS ⟨cA,λ_=>none⟩ [] owN [] [] t φ):FnOk P w K mg base CX0 (k+1) f fd ps (spD cA ps.length (run N.length φ)):=by
 refine F.ok S (λvs H Q E h => ?_) λcdv A outer s H vs Q E hr h => ?_
 · obtain⟨av,ds,d,_,r,hl,_⟩:=h
   rw [<-r.length,hl]
 · obtain⟨av,ds,d,ha,r,hl,hm,q⟩:=h
   obtain⟨t,ht,owN,hv⟩:=hbody cdv A outer s H E hr;refine⟨t,ht,?_⟩;unfold run at hm;cases hφ:φ (ds.map some++List.replicate (N.length-ds.length) none)with
   |none=>rw [hφ]at hm;cases hm
   |some o=>
    rw [hφ]at hm;refine hv H av _ _ H _ (ZfR ha r) o hφ _ ?_;cases o with
    |nx δ'=>cases hm;exact λA' σ' H' E'=>q .non H' E'.same rfl
    |rt d'=>cases hm;exact λv H' s' r'=>q v H' s' r'
    |bk δ'=>cases hm
    |ct δ'=>cases hm
end
abbrev MTab:=List (String×(Nat×(List D->Option D)))
structure MethOk(X:Cx)(cA:Kn)(k:Nat)(m:String)(c:String)(n:Nat)(mm:List D->Option D):Prop where
 ex:∃f fd ps,Cls X.K (cA.c c)/\Meth X.K (cA.c c) (Str.ofString m) f/\FnOk X.prog X.w X.K X.mg X.base CX0 k f fd ps (spD cA n mm)/\Binds X.K fd ps []
def MTOk(X:Cx)(cA:Kn)(k:Nat)(m:String):MTab->Prop
 | []=>True
 |(c,n,mm)::r=>MethOk X cA k m c n mm/\MTOk X cA k m r
theorem MTOk.get{X:Cx}{k:Nat}{m:String}:∀{tab:MTab}{c:String}{n:Nat}{mm:List D->Option D},MTOk X cA k m tab->tab.lookup c=some (n,mm)->MethOk X cA k m c n mm
 | [],_,_,_,_,h=>by simp at h
 |(c',n',mm')::r,c,n,mm,T,h=>by
  rw [List.lookup_cons]at h;cases hc:c == c' with
  |true=>
   rw [hc]at h;cases h;have:c=c':=eq_of_beq hc;subst this;exact T.1
  |false=>
   rw [hc]at h;exact MTOk.get T.2 h
def ZgD(cA:Kn)(m:String)(tab:MTab)(ta:TE)(t:TA):TE:=λσ H Q=>ta σ H λx H1=>∃a dx fs c n mm,x = .ref a/\H1 a=some (.ins (cA.c c) dx fs)/\fs.lookup (Str.ofString m)=none/\tab.lookup c=some (n,mm)/\t σ H1 λvs H2=>spD cA n mm (x::vs) H2 Q E0
theorem ZaG {X:Cx} {k:Nat} {m:String} {tab:MTab} {o:Expr} {ta:TE} {pos apos:Pos} {pl:Sem Bool} (T:MTOk X cA k m tab) (hr:Room k X.A) (he:PE X o ta)
 (ht:eval (.Call (.Attribute o (Str.ofString m) apos) [] [] pos) X.env=(do
   let ov <-eval o X.env
   standAt apos.atName
   let(f,first) <-holding [ov] (getMethod ov (Str.ofString m) pl)
   callWith pos f first (backTo pos (starEach [] X.env)) (backToKw pos (keywordEach [] X.env))):=by rfl) :
 PE X (.Call (.Attribute o (Str.ofString m) apos) [] [] pos) (ZgD cA m tab ta tNil):=by
 intro pins s σ H Q I h;refine PySem.W.methodCall_KW (pl:=pl) (thn (he pins s σ H _ I h) λu s1 ⟨x,H1,I1,rx,a,dx,fs,c,n,mm,ex,ea,l,tl,q⟩ => ?_) ht;subst ex;obtain rfl:u=Value.ref a:=rx;obtain⟨f,fd,ps,hc,hm,F,hb⟩:=(T.get tl).ex;refine Zdp I1 ea hc hm l ?_;exact PySem.W.callWith_K0 (first:=[.ref a]) I1.kIn hm.kp (Zgt (us:=[.ref a]) (vs:=[.ref a]) (dvs:=[]) (ds:=[]) F hr hb .nil Z3 I1 (.cons rfl .nil) (by rw [List.append_nil];exact q))
def XW(m:String)(tab:MTab)(a:Env->Option D)(α:Env->Option (List D))(δ:Env):Option D:=match a δ with
 |some (.obj c ks xs)=>if ks.contains m then none else(match tab.lookup c with
  |some (n,mm)=>match α δ with
   |some ds=>if(D.obj c ks xs::ds).length=n then mm (.obj c ks xs::ds)else none
   |none=>none
  |none=>none)
 |_=>none
theorem Zb8{m:String}{tab:MTab}{ta:TE}{t:TA}{a:Env->Option D}{α:Env->Option (List D)}(ha:VE G ow ta .cl a)(h:VA G ow t .cl α):VE G ow (ZgD G.1 m tab ta t) .cl (XW m tab a α):=λH0 av A σ H δ E d e Q k=>by
 unfold XW at e;cases hx:a δ with
 |none=>rw [hx]at e;cases e
 |some x=>
  rw [hx]at e;cases x<;>first|(cases e;done)|skip
  rename_i c ks xs;dsimp only at e;cases hf:ks.contains m with
  |true=>rw [hf,if_pos rfl]at e;cases e
  |false=>
   rw [hf,if_neg Bool.false_ne_true]at e;cases htb:tab.lookup c with
   |none=>rw [htb]at e;cases e
   |some p=>
    obtain⟨n,mm⟩:=p;rw [htb]at e;dsimp only at e;cases he:α δ with
    |none=>rw [he]at e;cases e
    |some ds=>
     rw [he]at e;dsimp only at e
     by_cases hz:(D.obj c ks xs::ds).length=n
     · rw [if_pos hz]at e
       refine ha H0 av A σ H δ E _ hx _ λv H1 s1 r1 => ?_
       obtain⟨p,dx,vs,rfl,np,rd,zl,l⟩:=r1;refine⟨p,dx,_,c,n,mm,rfl,rd,ZcZ hf,htb,h H0 av A σ H1 δ (E.mono s1) ds he _ λws H2 s2 r2 => ?_⟩;have E2:=(E.mono s1).mono s2;refine⟨AV av A,.obj c ks xs::ds,d,E2.avl,.cons ?_ r2.cl,hz,e,λv H' s r=>k v H' ((s1.trans s2).trans s) r.t⟩;unfold Rep;exact⟨p,dx,vs,rfl,np,s2 _ _ rd,zl,l.same s2⟩
     · rw [if_neg hz]at e;cases e
def isD:D->D->Option D
 | .bl a,.bl b=>some (.bl (a == b))
 |_,_=>none
end
end DL
namespace DL
open PySem PySem.Spec L2
def Yk:Nat->List D->List D
 |_,[]=>[]
 |k,x::xs => .tup [.int (k:Nat),x]::Yk (k+1) xs
theorem UW:∀(k:Nat)(xs:List D),(Yk k xs).length=xs.length
 |_,[]=>rfl
 |k,x::xs=>by rw [Yk,List.length_cons,List.length_cons,UW]
theorem JD:∀(k:Nat)(xs:List D)(i:Nat),(Yk k xs)[i]? = (xs[i]?).map λx => .tup [.int ((k+i:Nat):Int),x]
 |_,[],i=>by simp [Yk]
 |k,x::xs,0=>by simp [Yk]
 |k,x::xs,i+1=>by
  rw [Yk,List.getElem?_cons_succ,List.getElem?_cons_succ,JD (k+1) xs i];have:k+1+i=k+(i+1):=by omega
  rw [this]
section
variable{cA:Kn}{G:Cn}{ow:List Nat}
theorem Zct{iv:Addr->Prop}{H0:Hp}{n0:Nat}{cs:List Nat}:Vv cA iv (Zkn n0 cs) (Yk n0 (cs.map λc => .str [c])) H0:=λH s=>by
 refine⟨λi hi => ?_,λi x v H' hx y => ?_,λi hi => ?_⟩
 · have:i<cs.length:=by simpa [UW]using hi
   exact this
 · obtain⟨c,p,hc,hp,rfl,rfl⟩:=y
   rw [JD,List.getElem?_map,hc]at hx;cases hx;refine⟨ZW hp,λav' h1 _ => ?_⟩;unfold Rep;exact⟨p,_,rfl,λz=>h1 p z hp,ZO,.cons rfl (.cons rfl .nil)⟩
 · have:cs.length<=i:=by simpa [UW]using hi
   exact this
end
end DL
namespace DL
open PySem PySem.Spec L2
section
variable{cA:Kn}{P:Program}{w:World}{K:PySem.W.Frag}{mg:Str->Option Value}{base:Heap}
theorem YJ {x qual:Str} {st:Stmt} {f:Addr} {fd:FuncData} {N ps:List Str} {k:Nat} {φ:Env->Option Out} {body:List Stmt} {scope:Scope} {n:Nat} {m:List D->Option D} (F:FunX K x qual st f fd) (S:FnScope N ps (defScope st)) (hS:defScope st=scope) (hB:defBody st=body)
 (hbody:∀(cdv:Value)(A:Around)(outer:List PySem.Env)(s:Shared)(H:Hp)(E:XK),Room k (A.deeper (PyProof.Rows.envOfC qual scope s.heap.objs.size f cdv)) ->
   ∃t,PSs (X6 CX0 P w K mg base N qual scope f cdv A outer s H E).nox body t/\∃owN,VS ⟨cA,λ_=>none⟩ [] owN [] [] t φ)  (hm:m=run N.length φ) (hn:ps.length=n):FnOk P w K mg base CX0 (k+1) f fd ps (spD cA n m):=by
 subst hS hB hm hn;exact ZkI F S hbody
theorem ZkJ {x qual:Str} {st:Stmt} {f:Addr} {fd:FuncData} {N ps:List Str} {k:Nat} {φ:Env->Option Out} {body:List Stmt} {scope:Scope} {n:Nat} {m:List D->Option D} (F:FunX K x qual st f fd) (S:FnScope N ps (defScope st)) (hS:defScope st=scope) (hB:defBody st=body)
 (hbody:∀(cdv:Value)(A:Around)(outer:List PySem.Env)(s:Shared)(H:Hp)(E:XK)(a:Addr),Room k (A.deeper (PyProof.Rows.envOfC qual scope s.heap.objs.size f cdv)) ->
   ∃t,PSs (X6 CX0 P w K mg base N qual scope f cdv A outer s H E).nox body t/\VS ⟨cA,λj=>if j=0 then some (.inl a)else none⟩ [0] [0] [] [] t φ)  (hm:m=runI N.length φ) (hn:ps.length=n):FnOk P w K mg base CX0 (k+1) f fd ps (spI cA n m):=by
 subst hS hB hm hn;exact Zmv F S hbody
end
end DL
namespace DL
open PySem PySem.Spec L2 PyProof.Rows
def YV:List D->Option (List Int)
 | []=>some []
 | .int b::r=>match YV r with
  |some bs=>some (b::bs)
  |none=>none
 |_=>none
theorem UC:∀{xs:List D}{bs:List Int},YV xs=some bs->xs=bs.map D.int
 | [],bs,h=>by cases h;rfl
 |x::xs,bs,h=>by
  cases x<;>first|(cases h;done)|skip
  rename_i b;unfold YV at h;cases hr:YV xs with
  |none=>rw [hr]at h;cases h
  |some cs=>
   rw [hr]at h;cases h;rw [List.map_cons,UC hr]
theorem UD:∀(ns:List Int)(its:List Value),Vals (ns.map V.int) its->IntsAre its ns
 | [],its,h=>by cases h;exact .nil
 |n::ns,its,h=>by
  cases h with
  |cons r1 r2=>
   obtain⟨t,rfl⟩:=r1;exact .cons _ _ (UD ns _ r2)
def V4:List Int->Int
 | []=>0
 |n::ns=>ns.foldl max n
theorem Zae:∀(ns:List Int)(n:Int),(ns.foldl max n=n\/ns.foldl max n∈ns)/\n<=ns.foldl max n/\∀a∈ns,a<=ns.foldl max n
 | [],n=>⟨.inl rfl,Int.le_refl _,λ_ z=>nomatch z⟩
 |m::ns,n=>by
  obtain⟨h1,h2,h3⟩:=Zae ns (max n m);rw [List.foldl_cons];refine⟨?_,by omega,λa ha => ?_⟩
  · rcases h1 with h|h
    · by_cases hm:n<=m
      · exact .inr (by rw [h,Int.max_eq_right hm];exact List.mem_cons_self)
      · exact .inl (by rw [h,Int.max_eq_left (by omega)])
    · exact .inr (List.mem_cons_of_mem _ h)
  · rcases List.mem_cons.mp ha with rfl|ha
    · omega
    · exact h3 a ha
theorem ZbF{ns:List Int}(h:0<ns.length):V4 ns∈ns/\∀a∈ns,a<=V4 ns:=by
 cases ns with
 |nil=>cases h
 |cons n ns=>
  obtain⟨h1,h2,h3⟩:=Zae ns n;refine⟨?_,λa ha => ?_⟩
  · rcases h1 with h|h
    · show ns.foldl max n∈_
      rw [h];exact List.mem_cons_self
    · exact List.mem_cons_of_mem _ h
  · rcases List.mem_cons.mp ha with rfl|ha
    · exact h2
    · exact h3 a ha
theorem ZbG{ns:List Int}{M:Int}(h1:M∈ns)(h2:∀a∈ns,a<=M):M=V4 ns:=by
 obtain⟨h3,h4⟩:=ZbF (List.length_pos_of_mem h1);exact Int.le_antisymm (h4 M h1) (h2 _ h3)
def Zg3(K:PySem.W.Frag):List V->Hp->VK->Prop:=λxs H Q=>∃(p:Addr) (ns:List Int),xs=[.ref p]/\SqL K H p (ns.map V.int)/\0<ns.length/\Q (.int (V4 ns)) H
def Zg4(K:PySem.W.Frag):List V->Hp->VK->Prop:=λxs H Q=>∃(p:Addr) (ns:List Int),xs=[.ref p]/\SqL K H p (ns.map V.int)/\Q (.int ns.sum) H
section
variable{X:Cx}{K:PySem.W.Frag}{cA:Kn}
theorem Zfd(hc:X.calm=true):Ym X (.builtin "max") (Zg3 X.K):=by
 intro pins s σ H xs us Q I rs h;obtain⟨p,ns,rfl,hq,hne,q⟩:=h;obtain⟨u,rfl,rx⟩:=Y2 rs;cases rx;obtain⟨its,rv,pl,hz⟩:=I.list hq;have hi:=UD ns its rv;obtain⟨ys,e⟩:=hi.allInts.items
 have hns:ns=ys.toList.map (·.1):=by
  rw [<-hi.numsOf,<-nums_intItems,<-e]
 have hsz:0<ys.size:=by
  have h3:=hne;rw [hns,List.length_map,Array.length_toList]at h3;exact h3
 have hl:=pl.isList;rw [e]at hl;refine max_intList (I.ok.hd hc) hl hsz λv h' tk hv hk => ?_
 obtain⟨t,rfl⟩:=intItems_at hv;obtain⟨h1,h2⟩:=argBest_gt (numAt ys) (ys.size-1)
 have hM:=ZbG (ns:=ns) (M:=numAt ys (argBest (λi j=>decide (numAt ys i>numAt ys j)) (ys.size-1))) (by
  rw [hns,numAt_eq];exact getD_mem (by rw [List.length_map,Array.length_toList];omega)) (λa ha=>by
  rw [hns]at ha;obtain⟨j,hj,rfl⟩:=mem_getD ha;rw [List.length_map,Array.length_toList]at hj;rw [<-numAt_eq];exact h2 j (by omega))
 exact⟨.int (V4 ns),H,I.kept hk,⟨t,by rw [hM]⟩,q⟩
theorem Zfe(hc:X.calm=true):Ym X (.builtin "sum") (Zg4 X.K):=by
 intro pins s σ H xs us Q I rs h;obtain⟨p,ns,rfl,hq,q⟩:=h;obtain⟨u,rfl,rx⟩:=Y2 rs;cases rx;obtain⟨its,rv,pl,hz⟩:=I.list hq;have hi:=UD ns its rv;obtain⟨ys,e⟩:=hi.allInts.items
 have hns:ns=ys.toList.map (·.1):=by
  rw [<-hi.numsOf,<-nums_intItems,<-e]
 have hl:=pl.isList;rw [e]at hl;refine sum_intListG (I.ok.hd hc) hl λh' tk t' hk => ?_
 have e2:preSum (numAt ys) ys.size=ns.sum:=by
  rw [preSum_eq,List.take_of_length_le (by simp),hns]
 exact⟨.int ns.sum,H,I.kept hk,⟨t',by rw [e2]⟩,q⟩
theorem JE(hc:X.calm=true:=by rfl)(hK:X.K=K:=by rfl):Ym X (.builtin "sum") (Zg4 K):=hK▸Zfe hc
def maxLD:List D->Option D
 | [.lst xs]=>match YV xs with
  |some ns=>if 0<ns.length then some (.int (V4 ns))else none
  |none=>none
 |_=>none
def sumLD:List D->Option D
 | [.lst xs]=>match YV xs with
  |some ns=>some (.int ns.sum)
  |none=>none
 |_=>none
theorem ZhC:Vt cA (Zg3 cA.K) maxLD:=λi H ds vs d _ h e Q k=>by
 unfold maxLD at e
 split at e
 · rename_i xs
   cases hb:YV xs with
   |none=>rw [hb]at e;cases e
   |some bs=>
    rw [hb]at e;dsimp only at e
    by_cases hz:0<bs.length
    · rw [if_pos hz]at e
      cases e;obtain⟨v,t,rfl,a,ws,rfl,_,rd,l⟩:=il1 h;have ex:=UC hb;subst ex;have ev:=l.vals (by rw [List.all_map];exact List.all_eq_true.mpr λ_ _=>rfl);rw [List.map_map]at ev;subst ev;exact⟨a,bs,rfl,rd,hz,k _ H (Same.refl H) rfl⟩
    · rw [if_neg hz]at e;cases e
 · cases e
theorem JF:Vt cA (Zg4 cA.K) sumLD:=λi H ds vs d _ h e Q k=>by
 unfold sumLD at e
 split at e
 · rename_i xs
   cases hb:YV xs with
   |none=>rw [hb]at e;cases e
   |some bs=>
    rw [hb]at e;cases e;obtain⟨v,t,rfl,a,ws,rfl,_,rd,l⟩:=il1 h;have ex:=UC hb;subst ex;have ev:=l.vals (by rw [List.all_map];exact List.all_eq_true.mpr λ_ _=>rfl);rw [List.map_map]at ev;subst ev;exact⟨a,bs,rfl,rd,k _ H (Same.refl H) rfl⟩
 · cases e
end
end DL
namespace L2
open PySem PySem.Spec PyProof.Rows
section
variable{X:Cx}{scope:Scope}{tn cn:List Str}{js:List Nat}{tg iter elt:Expr}{ifs:List Expr}{pos spos pos':Pos}{wi:TI}{g:TG}{tt:TT}{te:TE}
theorem Vb {i:Nat} {x:Str} (hN:X.N.Nodup) (hi:X.N[i]? = some x) (hx:X.env.scope.names.lookup x=some .local) (hc:X.calm=true) (S:CompSc X scope tn cn js) (hI:PI X tg iter wi)
 (hg:∀C s₂ H₂ fp,PG (XS X scope (tn++cn) C s₂ H₂ fp) tg g) (ht:∀C s₂ H₂ fp,PTs (XS X scope (tn++cn) C s₂ H₂ fp) ifs tt) (he:∀C s₂ H₂ fp,PE (XS X scope (tn++cn) C s₂ H₂ fp) elt te)
 (hsw:swapsWith (.ListComp elt [⟨tg,iter,ifs,0⟩] scope pos) (some (.Name x pos')) spos.line X.env=pure true:=by rfl)
 (hs:∀x,foldedSetIterable iter X.env x=pure x:=by intro _;rfl) :
 PS X (.Assign [.Name x pos'] (.ListComp elt [⟨tg,iter,ifs,0⟩] scope pos) spos) (X3 (QP wi g tt te tn.length js) (Y8 i)):=by
 intro pins s σ H D I h;rw [exec_Assign_Name_used _ _ _ _ hsw];refine wpAny_bind (wpAny_standAt (wpAny_bind ?_));show wpAny _ X.A (do let _ <-comprehension (.ListComp elt [⟨tg,iter,ifs,0⟩] scope pos) scope X.env _ (newList []) false (eval iter X.env) (some (assign (.Name x pos') X.env))) _ _ s
 refine wpAny_bind (wpAny_mono (wpAny_comprehension_free (use:=some (assign (.Name x pos') X.env)) (Q:=λ_ s'=>SP X pins D .next s') (cl:=Xc X.env.cells scope.names []) rfl hs (Zal (S.clos I.ok)) S.kind S.names
  (thn (hI pins s σ H _ I h) λv s1 h1=>thn h1 λitv s2 h2 => ?_)) (λ_ s' hq=>wpAny_pure (wpAny_pure hq)) λ_ _ e=>e)
 obtain⟨it,fp,tnx,J,H2,e,I2,T,st2,f2,W,⟨m0,w0⟩,turn⟩:=h2;subst e;refine ZaZ (RR:=λacc C=>compPost (model X.prog X.w) X.A X.xe (some (assign (.Name x pos') X.env)) (λ_ s'=>SP X pins D .next s') acc C) (W:=W) (m0:=m0) hc S hg ht he I2 T st2 f2 w0 λi' m ys H w => ?_
 rcases turn i' m ys H w with⟨stop,qn⟩|r
 · refine .inl ⟨stop,λC D' s its n σ' hC hD hDC hv hz I' => ?_⟩
   obtain⟨m',hn,_⟩:=id I'.loc;have pd:=I'.pin (D',{ cls := .type "list",data := .seq its.toArray n }) (List.mem_append_right _ List.mem_cons_self);have hCf:H C=none:=I'.free;have I1:Inv X pins σ (upd H D' (.lst ys)) { s with heap:=s.heap }:=ZcS S I2 hC hD hDC f2 I' hv hz (Heap.SameBut.refl _ _);show wpAny _ X.A (assign (.Name x pos') X.env (.ref D')) _ _ _;have hlC:X.env.locals≠C:=λz=>absurd (z▸I2.lt) (Nat.not_lt.mpr hC)
   have hcC:∀y c,X.env.cells.lookup y=some c->c≠C:=λy c e z=>by
    obtain⟨v',o',q,_⟩:=I2.cell y c e;exact absurd (Heap.lt_size q) (Nat.not_lt.mpr (z▸hC))
   refine wpAny_assign_Name (Zbr I1 hN hi (.inl hx) (v:=.ref D') rfl (λs3 I3 ⟨a,hsb,ha⟩ => ?_) (.inr hx))
   have hCa:C≠a:=by
    rcases ha with rfl|ha
    · exact Ne.symm hlC
    · exact Ne.symm (hcC _ _ ha)
   refine⟨m',hn.sameBut hsb hCa,λh' hs' => ?_⟩;have hCn:upd H D' (.lst ys) C=none:=by rw [Zz (Ne.symm hDC)];exact hCf
   have I4:Inv X pins (σ.set i (some (.ref D'))) (upd H D' (.lst ys)) { s3 with heap:=h',toks:=s3.toks }:=I3.turned (it:=C) (λb o hb e=>(hs'.2 b hb).trans e) hCn (Ne.symm hlC) (.inr (Nat.le_trans (Nat.le_trans I2.ok.above (Nat.le_of_lt I2.lt)) hC)) (λy c e=>hcC y c e) λp hp z=>by
    have:=(I2.pin p hp).1;exact absurd (Heap.lt_size this) (Nat.not_lt.mpr (z▸hC))
   exact⟨_,_,I4,qn D' pd.2.1⟩
 · exact .inr r
end
end L2
namespace PySem
open Builtin SmallTypes
open AutoSeq1 (wpAny_loadPart')
theorem Zav(a:Addr)(its:Array Value)(k:Nat)(dc:Option Addr)(sl:Array (Option Value))(u:Tok) :
 Meets (Builtin.«enumerate.__new__» ⟨[.type "enumerate",.ref a],[("start",.int 1 u)]⟩) (λ_ R s=>s.heap.get? a=some { cls := .type "list",dict:=dc,data := .seq its k,slots:=sl } /\
  R (.ok (.ret (.ref (s.heap.push { cls := .type "list_iterator",data := .fields #[.ref a,.int 0 0] }).objs.size)))
   { s with heap:=(s.heap.push { cls := .type "list_iterator",data := .fields #[.ref a,.int 0 0] }).push { cls := .type "enumerate",data := .fields #[.none,.bool false,.ref s.heap.objs.size,rawInt 1,.none,.none] } }):=
 .of_wp λP w A R s h=>by
  obtain⟨hp,gs,dr,tk,os⟩:=s;obtain⟨hl,h⟩:=h;have sb:=sub_enumerate;have hL:Heap.IsList (Shared.heap ⟨hp,gs,dr,tk,os⟩) a its:=⟨_,hl,rfl,k,rfl⟩
  wp_walk using wpAny_loadPart' hl
  refine wpAny_stack_any λfs => ?_
  refine wpAny_pure ?_
  split
  · rename_i q _ _ _ _ _
    cases(q == Value.type "enumerate")<;>(wp_walk using wpAny_loadPart' hl,wpAny_pyIter_list hL)
    · exact⟨_,rfl,h⟩
    · exact⟨_,rfl,h⟩
  · wp_walk using wpAny_loadPart' hl,wpAny_pyIter_list hL
    exact⟨_,rfl,h⟩
end PySem
namespace PySem
open Sem (wp)
theorem tyK(a:Value)(u:Tok):checkTypeCall "enumerate" ⟨[a],[("start",.int 1 u)]⟩=pure ():=by kernel_rfl
theorem nwK(a:Value)(u:Tok):checkBuiltinCall "enumerate.__new__" ⟨[.type "enumerate",a],[("start",.int 1 u)]⟩=pure ():=by kernel_rfl
theorem ZkK(x a:Value)(u:Tok):argsOk "object.__init__" ⟨[x,a],[("start",.int 1 u)]⟩:=by
 first
  |kernel_rfl
  |exact⟨by kernel_rfl⟩
  |(unfold argsOk;kernel_rfl)
theorem Zcu{x a:Value}{u:Tok}:Meets (Builtin.«object.__init__» ⟨[x,a],[("start",.int 1 u)]⟩) (λ_ R s=>s.TypeIs x "enumerate" /\ R (.ok (.ret .none)) s):=by
 have hl:=F.called_enumerate.init.lookup;have hm:=F.called_enumerate.made;refine Meets.of_wp λP w A R s hs => ?_
 obtain⟨hT,hq⟩:=hs
 repeat (any_goals (first|wp_step|assumption))
 exact⟨_,rfl,hq⟩
end PySem
namespace PySem
open Sem (wp)
section
variable{P:Program}{w:World}{A:Around}{E:Value->Shared->Prop}{s:Shared}
theorem ZaS {a:Value} {u:Tok} {S:Spec} {Q:Value->Shared->Prop} (g:Meets (Builtin.«enumerate.__new__» ⟨[.type "enumerate",a],[("start",.int 1 u)]⟩) S)
 (h:S A.in1 (wants (λx s₁=>s₁.TypeIs x "enumerate" /\ Q x s₁) E) s):wpAny (model P w) A (call (.type "enumerate") [a] [("start",.int 1 u)]) Q E s:=by
 have ft:=F.called_enumerate;obtain⟨c,tl,b1⟩:=ft.mro;have b2:=ft.made;have b3:=ft.sub;have b4:=ft.notType;have b5:=ft.canCreate;have b6:=tyK a u;refine wpAny_call (codeAny_of_tree ?_);show wpAny _ _ (callAny (.type "enumerate") _) _ _ _;refine wpAny_pure ⟨Code.quiet_builtin _ (by decide +kernel),?_⟩;refine codeAny_builtin F.entry_type_call ?_;rw [Around.under_plain (weight_type_call_type _ [a] _) (units_type_call_type _ [a] _)]
 repeat (any_goals (first|wp_step|assumption))
 refine codeAny_mono (codeAny_call_builtin ft.plain F.entry_enumerate_new (wpAny_of_eq (nwK a u) (g P w A.in1 _ s h))) λr s₁ hr => ?_
 cases r with
 |error e=>exact hr
 |ok fl=>
  cases fl with
  |ret obj=>
   obtain⟨hT,hq⟩:=hr;have b7:=ft.init.lookup;have b8:=ft.init.bind obj
   repeat (any_goals (first|wp_step|assumption))
   have ini:=Zcu (x:=obj) (a:=a) (u:=u) P w A.in1 (wants (λr s₂=>r=Value.none/\Q obj s₂) E) s₁ ⟨hT,rfl,hq⟩;refine codeAny_mono (codeAny_call_builtin ft.init.plain F.entry_object_init (ft.init.check _ _ _ _ _ _ _ _ hT (ZkK obj a u) ini)) λr2 s2 h2 => ?_
   cases r2 with
   |error e=>exact h2
   |ok f2=>
    cases f2 with
    |ret r=>
     obtain⟨rfl,hq2⟩:=h2
     repeat (any_goals (first|wp_step|assumption))
    |_=>exact h2.elim
  |_=>exact hr.elim
theorem ZdB {l:Addr} {its:Array Value} {u:Tok} {Q:Value->Shared->Prop} (hL:s.heap.IsList l its)
 (h:∀h',IsEnum h' (s.heap.objs.size+1) s.heap.objs.size 1 .none->h'.IsListIter s.heap.objs.size l 0->(∀b o,s.heap.get? b=some o->h'.get? b=some o)->Q (.ref (s.heap.objs.size+1)) { s with heap:=h' }) :
 wpAny (model P w) A (call (.type "enumerate") [.ref l] [("start",.int 1 u)]) Q E s:=by
 obtain⟨⟨c,dc,dt,sl⟩,hl,hc,n,hd⟩:=hL;cases(show c = .type "list" from hc);cases(show dt = .seq its n from hd);refine ZaS (Zav l its n dc sl u) ⟨hl,?_⟩;have hz:(s.heap.push { cls := .type "list_iterator",data := .fields #[.ref l,.int 0 0] }).objs.size=s.heap.objs.size+1:=by rw [Heap.size_push]
 have e0:=Heap.get?_push_size (s.heap.push { cls := .type "list_iterator",data := .fields #[.ref l,.int 0 0] }) (o:={ cls := .type "enumerate",data := .fields #[.none,.bool false,.ref s.heap.objs.size,rawInt 1,.none,.none] }) rfl;rw [hz]at e0;show _/\_;rw [hz];exact⟨⟨_,e0,rfl⟩,h _ e0 ⟨_,Heap.get?_push_of_some _ (Heap.get?_push_size _ rfl),rfl,rfl⟩ λb o x=>Heap.get?_push_of_some _ (Heap.get?_push_of_some _ x)⟩
end
end PySem
namespace L2
open PySem PySem.Spec PyProof.Rows
def Zko(K:PySem.W.Frag)(n0:Nat)(l:Addr):It:=
 ⟨λi H=>∃xs x,SqL K H l xs/\xs[i]? = some x,λi H v H'=>∃x p,(∀xs,SqL K H l xs->xs[i]? = some x)/\H p=none/\v = .ref p/\H'=upd H p (.tup [.int ((n0+i:Nat):Int),x]),λi H=>∃xs,SqL K H l xs/\xs.length<=i⟩
theorem Zff{prog:Program}{w:World}{A:Around}(hh:A.handled=none)(it l:Addr)(hne:l≠it)(its:Array Value)(n0:Nat) :
 Draws prog w A it [it,l] (n0+its.size) (λi v=>∃j,i=n0+j/\its[j]? = some v) (λi h=>∃j,i=n0+j/\h.IsListIter it l j/\h.IsList l its) where
 live:=λi h ⟨j,_,st,_⟩=>let⟨o,ho,_⟩:=st;⟨o,ho⟩
 frame:=λi h h' ⟨j,e,s1,s2⟩ hk=>⟨j,e,s1.at λo q=>hk it (by simp) o q,s2.at λo q=>hk l (by simp) o q⟩
 item:=λi s Q E hi st hQ=>by
  obtain⟨j,rfl,s1,s2⟩:=st;have hj:j<its.size:=by omega
  refine wpAny_nextOf_list_item s1 s2 (x:=its[j]) (by simp [hj]) λh' st' sb => ?_
  exact hQ _ h' s.toks ⟨j,rfl,by simp [hj]⟩ ⟨j+1,by omega,st',s2.extBut sb.extBut hne⟩ sb
 done:=λs Q E st hE=>by
  obtain⟨j,e,s1,s2⟩:=st
  exact wpAny_nextOf_list_end hh s1 s2 (by have : j = its.size := by omega
                                           subst this;simp) hE
theorem ZdC{prog:Program}{w:World}{A:Around}(hh:A.handled=none)(it l:Addr)(its:Array Value)(n j:Nat)(hj:its.size<=j) :
 Draws prog w A it [it,l] n (λ_ _=>False) (λi h=>i=n/\h.IsListIter it l j/\h.IsList l its) where
 live:=λi h ⟨_,st,_⟩=>let⟨o,ho,_⟩:=st;⟨o,ho⟩
 frame:=λi h h' ⟨e,s1,s2⟩ hk=>⟨e,s1.at λo q=>hk it (by simp) o q,s2.at λo q=>hk l (by simp) o q⟩
 item:=λi s Q E hi st hQ=>absurd st.1 (by omega)
 done:=λs Q E st hE=>wpAny_nextOf_list_end hh st.2.1 st.2.2 (by simp [hj]) hE
theorem ZdD{P:Program}{w:World}{K:PySem.W.Frag}{elts:List Expr}{x1:Nat}{tpos:Pos}(e it l:Addr)(hne:e≠it)(n0:Nat) :
 Turn P w K (.Tuple elts x1 tpos) (Zko K n0 l) [e,it] e (λi h=>(∃old,IsEnum h e it ((n0+i:Nat):Int) old)/\h.IsListIter it l i) where
 mem:=by simp
 obj:=λi h st b hb=>by
  obtain⟨⟨old,he⟩,o,ho,hc,hd⟩:=st;simp at hb;rcases hb with rfl|rfl
  · exact ⟨_, he, fun v z => by
     have z':Data.fields _=Data.cell v:=z;cases z'⟩
  · exact⟨o,ho,λv z=>by rw [hd]at z;cases z⟩
 keep:=λi h h' st k=>by
  obtain⟨⟨old,he⟩,s1⟩:=st;exact⟨⟨old,k e (by simp) _ he⟩,s1.at λo q=>k it (by simp) o q⟩
 item:=by
  intro X hP hw hK hc i pins s σ H E I hf st hg;subst hP hw hK;obtain⟨⟨old,he⟩,st⟩:=st;obtain⟨xs,x,hq,hx⟩:=hg;obtain⟨its,rv,p,hz⟩:=I.list hq;obtain⟨u,hu,ru⟩:=rv.get hx;have hi:i<its.length:=(List.getElem?_eq_some_iff.mp hu).1;obtain⟨e0,e1,e2,e3,e4,e5⟩:=hf e (by simp);obtain⟨f0,f1,f2,f3,f4,f5⟩:=hf it (by simp)
  have hLe:l≠e:=by
   rintro rfl
   obtain⟨o,ho,hcl,_⟩:=p.isList;have he':s.heap.get? l=some _:=he;rw [he']at ho;cases ho;exact absurd (show Value.type "enumerate" = Value.type "list" from hcl) (by decide)
  have hLi:l≠it:=by
   rintro rfl
   obtain⟨o,ho,hcl,_⟩:=p.isList;obtain⟨o',ho',hcl',_⟩:=id st;rw [ho]at ho';cases ho';rw [hcl]at hcl';exact absurd hcl' (by decide)
  have D:=Zff (prog:=X.prog) (w:=X.w) (A:=X.A.in1) (I.ok.hd hc) it l hLi its.toArray n0;refine wpAny_pyNext_enum_itemD D he ⟨i,rfl,st,p.isList⟩ (by simp;omega) hne (by simp [hne,Ne.symm hLe]) λy h' tk hP ho st' hT hsz hk => ?_
  obtain⟨j,ej,hy⟩:=hP;have ej':j=i:=by omega
  subst ej'
  have hyu:y=u:=by
   have:its[j]? = some y:=by simpa using hy
   rw [hu]at this;exact(Option.some.inj this).symm
  subst hyu;refine⟨_,rfl,wpAny_letOwnedTupleGo_enum ho λh2 he2 hs2 => ?_⟩;have hs2:Heap.SameBut e h' h2:=hs2;have hTl:e<s.heap.objs.size:=Heap.lt_size he;obtain⟨j',ej2,st'',_⟩:=st';have ej3:j'=j+1:=by omega
  subst ej3;have hT2:h2.get? s.heap.objs.size=some { cls := .type "tuple",data := .seq #[.int ((n0+j:Nat):Int) tk,y] }:=(hs2.2 _ (Nat.ne_of_gt hTl)).trans hT;have k2:∀b o,b≠e->b≠it->s.heap.get? b=some o->h2.get? b=some o:=λb o hb hb' q=>(hs2.2 b hb).trans (hk b o hb hb' q)
  have hTn:H s.heap.objs.size=none:=I.hok.fresh (Nat.le_refl _);have neT:∀b o,s.heap.get? b=some o->b≠s.heap.objs.size:=λb o q=>Nat.ne_of_lt (Heap.lt_size q)
  have I2:Inv X pins σ (upd H s.heap.objs.size (.tup [.int ((n0+j:Nat):Int),x])) { s with heap:=h2,toks:=tk+1 }:=by
   refine I.step (g':=s.gens) (d':=s.drawn) (ch:=[e,it]) (λb hb => ?_) (λb o _ _ hcb q _ => ?_) (λb o _ _ hcb q _ => ?_) (λb o hcb q n => ?_) (λb o hcb q => ?_) (λb xs q => ?_) (λb o v q => ?_) (λb ps q => ?_) (λm hm => ?_) (λb o q => ?_) I.bare
   · simp at hb
     rcases hb with rfl|rfl
     · exact⟨e3,e1,e4,e5⟩
     · exact⟨f3,f1,f4,f5⟩
   · simp at hcb
     exact k2 b o hcb.1 hcb.2 q
   · simp at hcb
     exact⟨o.slots,k2 b o hcb.1 hcb.2 q⟩
   · rw [Zz (neT b o q)]
     exact n
   · simp at hcb
     exact⟨o,k2 b o hcb.1 hcb.2 q⟩
   · rw [Zz (Yr q hTn)]
     exact q
   · rw [Zz (Yr q hTn)]
     exact q
   · exact⟨#[],by rw [Zz (Yr q hTn),q];simp⟩
   · obtain⟨o,es,ep,q,r⟩:=hm
     exact⟨o,es,ep,k2 _ o (Ne.symm e1) (Ne.symm f1) q,r⟩
   · by_cases hb:b=s.heap.objs.size
     · subst hb
       rw [ZO]at q;cases q;refine⟨by show 2<=sizeLine;decide,[.int ((n0+j:Nat):Int) tk,y],.cons ⟨_,rfl⟩ (.cons ru .nil),?_⟩;exact⟨_,hT2,rfl,⟨_,rfl⟩,rfl⟩
     · rw [Zz hb]at q
       have nn:∀(b:Addr)(o:HO),H b=some o->b≠e/\b≠it:=λb o q=>⟨λz=>(by rw [z,e0]at q;cases q),λz=>(by rw [z,f0]at q;cases q)⟩
       refine(I.hok b o q).stay (λd v hd q' => ?_) (λd q'=>by rw [Zz (Yr q' hTn)];exact q') λd xs q'=>by rw [Zz (Yr q' hTn)];exact q'
       rcases hd with rfl|hd
       · exact k2 d v (nn d o q).1 (nn d o q).2 q'
       · exact k2 d v (nn d _ hd).1 (nn d _ hd).2 q'
  have he3:IsEnum h2 e it ((n0+(j+1):Nat):Int) y:=by
   have:((n0+(j+1):Nat):Int)=((n0+j:Nat):Int)+1:=by push_cast;omega
   rw [this];exact he2
  refine⟨.ref s.heap.objs.size,_,I2,rfl,⟨x,s.heap.objs.size,λys hy=>by rw [I.list_inj hy hq];exact hx,hTn,rfl,rfl⟩,⟨⟨_,he3⟩,?_⟩,λb hb => ?_⟩
  · obtain⟨o,ho',r⟩:=st''
    exact⟨o,(hs2.2 it (Ne.symm hne)).trans ho',r⟩
  · simp at hb
    rcases hb with rfl|rfl
    · rw [Zz (Nat.ne_of_lt hTl)];exact e0
    · obtain⟨o,ho',_⟩:=st
      rw [Zz (neT _ o ho')];exact f0
 done:=by
  intro X hP hw hK hc i pins s σ H E I hf st hg;subst hP hw hK;obtain⟨⟨old,he⟩,st⟩:=st;obtain⟨xs,hq,hx⟩:=hg;obtain⟨its,rv,p,hz⟩:=I.list hq;have hl:=rv.length;obtain⟨f0,f1,f2,f3,f4,f5⟩:=hf it (by simp);have D:=ZdC (prog:=X.prog) (w:=X.w) (A:=X.A.in1) (I.ok.hd hc) it l its.toArray (n0+i) i (by simp;omega);exact wpAny_pyNext_enum_endD D he ⟨rfl,st,p.isList⟩ λh' eb=>⟨rfl,I.turned (t':=s.toks) (λb o hb q=>eb b o hb q) f0 f1 f3 f4 f5⟩
 self:=λ_ _ _ _ _ st h=>by
  obtain⟨⟨old,he⟩,_⟩:=st;exact wpAny_pyIter_enum he h
end L2
namespace L2
open PySem PySem.Spec PyProof.Rows
theorem Zb0 {M:Model} {A:Around} {E:Value->Shared->Prop} {s:Shared} {pos:Pos} {T:String} {as:List (Bool×Sem Value)} {kws:List (Option Str×Sem Value)} {Q:Value->Shared->Prop}
 (h1:as.any (·.1)=false) (h2:kws.any (·.1.isNone)=false)
 (h:wpAny M A (evalArgs (.type T) true as kws) (λa s₁=>wpAny M A (call (.type T) a.pos a.kw) Q E s₁) E s):wpAny M A (callWith pos (.type T) [] as kws) Q E s:=by
 unfold callWith;refine wpAny_bind (wpAny_holding (thn h λa s₁ g => ?_));refine wpAny_bind (wpAny_standAt ?_);simp only [h1,h2,Bool.or_false,List.nil_append];refine wpAny_bind (wpAny_pure ?_);refine wpAny_bind (thn g λr s₂ hr => ?_);exact wpAny_bind (wpAny_holding (wpAny_point (wpAny_pure hr)))
section
variable{X:Cx}{elts:List Expr}{x1:Nat}{tpos:Pos}
end
end L2
namespace DL
open PySem PySem.Spec L2
section
variable{cA:Kn}{G:Cn}{ow:List Nat}
theorem Zcv{iv:Addr->Prop}{H0:Hp}{a:Addr}{vs:List V}{xs:List D}{n0:Nat}(rd:SqL cA.K H0 a vs)(l:RepL cA iv H0 xs vs):Vv cA iv (Zko cA.K n0 a) (Yk n0 xs) H0:=λH s=>by
 have rd':SqL cA.K H a vs:=s.seq rd;refine⟨λi hi => ?_,λi x v H' hx y => ?_,λi hi=>⟨vs,rd',by rw [UW]at hi;rw [<-l.length];exact hi⟩⟩
 · rw [UW]at hi
   obtain⟨v,hv,_⟩:=l.get (List.getElem?_eq_getElem hi);exact⟨vs,v,rd',hv⟩
 · obtain⟨z,p,hy,hp,rfl,rfl⟩:=y
   rw [JD]at hx;cases hxi:xs[i]? with
   |none=>rw [hxi]at hx;cases hx
   |some d=>
    rw [hxi]at hx;cases hx;obtain⟨v',hv,r⟩:=l.get hxi;rw [hy vs rd']at hv;cases hv;refine⟨ZW hp,λav' h1 h2 => ?_⟩;unfold Rep;exact⟨p,_,rfl,λz=>h1 p z hp,ZO,.cons rfl (.cons (((r.av h2).same s).same (ZW hp)) .nil)⟩
end
end DL
namespace PySem
open Builtin SmallTypes
open AutoSeq1 (wpAny_loadPart')
theorem Zaq(x:Str)(t u:Tok) :
 Meets (Builtin.«enumerate.__new__» ⟨[.type "enumerate",.str x t],[("start",.int 1 u)]⟩) (λ_ R s=>
  R (.ok (.ret (.ref (s.heap.push { cls := .type (strIterType x),data := .fields #[.str x t,.int 0 0] }).objs.size)))
   { s with heap:=(s.heap.push { cls := .type (strIterType x),data := .fields #[.str x t,.int 0 0] }).push { cls := .type "enumerate",data := .fields #[.none,.bool false,.ref s.heap.objs.size,rawInt 1,.none,.none] } }):=
 .of_wp λP w A R s h=>by
  obtain⟨hp,gs,dr,tk,os⟩:=s;have sb:=sub_enumerate
  wp_walk using wpAny_pyIter_strU
  refine wpAny_stack_any λfs => ?_
  refine wpAny_pure ?_
  split
  · rename_i q _ _ _ _ _
    cases(q == Value.type "enumerate")<;>(wp_walk using wpAny_pyIter_strU)
    · exact⟨_,rfl,h⟩
    · exact⟨_,rfl,h⟩
  · wp_walk using wpAny_pyIter_strU
    exact⟨_,rfl,h⟩
end PySem
namespace PySem
section
variable{P:Program}{w:World}{A:Around}{E:Value->Shared->Prop}{s:Shared}
theorem Zcw {x:Str} {t u:Tok} {Q:Value->Shared->Prop}
 (h:∀h',IsEnum h' (s.heap.objs.size+1) s.heap.objs.size 1 .none->h'.IsStrIter s.heap.objs.size (strIterType x) x t 0->(∀b o,s.heap.get? b=some o->h'.get? b=some o)->Q (.ref (s.heap.objs.size+1)) { s with heap:=h' }) :
 wpAny (model P w) A (call (.type "enumerate") [.str x t] [("start",.int 1 u)]) Q E s:=by
 refine ZaS (Zaq x t u) ?_;have hz:(s.heap.push { cls := .type (strIterType x),data := .fields #[.str x t,.int 0 0] }).objs.size=s.heap.objs.size+1:=by rw [Heap.size_push]
 have e0:=Heap.get?_push_size (s.heap.push { cls := .type (strIterType x),data := .fields #[.str x t,.int 0 0] }) (o:={ cls := .type "enumerate",data := .fields #[.none,.bool false,.ref s.heap.objs.size,rawInt 1,.none,.none] }) rfl;rw [hz]at e0;show _/\_;rw [hz];exact⟨⟨_,e0,rfl⟩,h _ e0 ⟨_,Heap.get?_push_of_some _ (Heap.get?_push_size _ rfl),rfl,rfl⟩ λb o x=>Heap.get?_push_of_some _ (Heap.get?_push_of_some _ x)⟩
end
end PySem
namespace L2
open PySem PySem.Spec PyProof.Rows
section
variable{X:Cx}{elts:List Expr}{x1:Nat}{tpos:Pos}
def Zeu(K:PySem.W.Frag)(ta:TA):TI:=λσ H R=>ta σ H λvs H1=>(∃l xs,vs=[.ref l]/\SqL K H1 l xs/\R (Zko K 1 l) H1)\/∃cs,vs=[S cs]/\R (Zkn 1 cs) H1
theorem Zfg {K:PySem.W.Frag} {a:Expr} {ta:TE} {p pos q1 q2:Pos} {k0} (hg:Gl X "enumerate") (hm:X.mg "enumerate" = none) (ha:PE X a ta) (hs:starEach [a] X.env=[(false,eval a X.env)]:=by rfl) (hK:X.K=K:=by rfl) :
 PI X (.Tuple elts x1 tpos) (.Call (.Name "enumerate" p) [a] [⟨some "start",.Constant (.int 1) k0 q1,q2⟩] pos) (Zeu K (Xp ta tNil)):=by
 subst hK;intro pins s σ H R I h;have e:eval (.Call (.Name "enumerate" p) [a] [⟨some "start",.Constant (.int 1) k0 q1,q2⟩] pos) X.env=(do callWith pos (<-eval (.Name "enumerate" p) X.env) [] (backTo pos (starEach [a] X.env)) (backToKw pos (keywordEach [⟨some "start",.Constant (.int 1) k0 q1,q2⟩] X.env))):=rfl;rw [e];refine wpAny_bind (UR I hg hm boot_enumerate ?_);refine Zb0 (by rw [hs];rfl) (by rfl) ?_
 refine evalArgs_kw2 (by rfl) ?_ hs;refine thn ((Ze ha Zk hs) pos pins s σ H _ I h) λus s1 ⟨vs,H1,I1,r1,qq⟩ => ?_
 refine thn ((Zhm (e:=.Constant (.int 1) k0 q1) Zl Zjh) pos pins s1 σ H1 (λks H2=>ks=[.int 1]/\H2=H1) I1 ⟨rfl,rfl⟩) λks s2 ⟨vk,H2,I2,rk,ek⟩ => ?_
 obtain⟨rfl,rfl⟩:=ek;obtain⟨w2,rfl,t2,rfl⟩:=Y2 rk;rcases qq with⟨l,xs,ev,hq,q⟩|⟨cs,ev,q⟩
 · subst ev
   obtain⟨w1,rfl,rx⟩:=Y2 r1;cases rx;obtain⟨its,rv,pl,hz⟩:=I2.list hq;show wpAny _ _ (call (.type "enumerate") [.ref l] [("start",.int 1 t2)]) _ _ _;refine ZdB pl.isList λh' he st k => ?_
   refine wpAny_pyIter_enum he ?_;have I3:Inv X pins σ H2 { s2 with heap:=h' }:=I2.kept (t':=s2.toks) k;refine⟨s2.heap.objs.size+1,[s2.heap.objs.size+1,s2.heap.objs.size],_,_,H2,rfl,I3,ZdD (s2.heap.objs.size+1) s2.heap.objs.size l (Nat.succ_ne_self _) 1,⟨⟨_,he⟩,st⟩,λb hb => ?_,q⟩
   have hb':s2.heap.objs.size<=b:=by
    simp at hb;rcases hb with rfl|rfl
    · exact Nat.le_succ _
    · exact Nat.le_refl _
   exact I2.fpOk hb' (I2.hok.fresh hb')
 · subst ev
   obtain⟨w1,rfl,t,rfl⟩:=Y2 r1;show wpAny _ _ (call (.type "enumerate") [.str (tx cs) t] [("start",.int 1 t2)]) _ _ _;refine Zcw λh' he st k => ?_
   refine wpAny_pyIter_enum he ?_;have I3:Inv X pins σ H2 { s2 with heap:=h' }:=I2.kept (t':=s2.toks) k;refine⟨s2.heap.objs.size+1,[s2.heap.objs.size+1,s2.heap.objs.size],_,_,H2,rfl,I3,ZdA (s2.heap.objs.size+1) s2.heap.objs.size (Nat.succ_ne_self _) 1 cs t,⟨⟨Nat.zero_le _,_,he⟩,st⟩,λb hb => ?_,q⟩
   have hb':s2.heap.objs.size<=b:=by
    simp at hb;rcases hb with rfl|rfl
    · exact Nat.le_succ _
    · exact Nat.le_refl _
   exact I2.fpOk hb' (I2.hok.fresh hb')
end
end L2
namespace DL
open PySem PySem.Spec L2
section
variable{cA:Kn}{G:Cn}{ow:List Nat}
def QX(ε:Env->Option D)(δ:Env):Option (List D):=match ε δ with
 |some (.lst xs)=>some (Yk 1 xs)
 |some (.str cs)=>some (Yk 1 (cs.map λc => .str [c]))
 |_=>none
theorem Zfh{ta:TE}{ε:Env->Option D}(h:VE G ow ta .cl ε):VI G ow (Zeu G.1.K (Xp ta tNil)) (QX ε):=λH0 av A σ H δ E xs e R k=>by
 unfold QX at e;cases he:ε δ with
 |none=>rw [he]at e;cases e
 |some d=>
  rw [he]at e;cases d<;>first|(cases e;done)|skip
  · cases e
    refine h H0 av A σ H δ E _ he _ λv H1 s r => ?_
    have e1:v=S _:=r;subst e1;exact .inr ⟨_,rfl,k _ H1 s Zct⟩
  · cases e
    refine h H0 av A σ H δ E _ he _ λv H1 s r => ?_
    obtain⟨a,vs,rfl,na,rd,l⟩:=r;exact .inl ⟨a,vs,rfl,rd,k _ H1 s (Zcv (Ju na rd λb o n e=>by rw [Vu λ⟨i,z⟩=>n (.inr ⟨i,z⟩)];exact e) l.cut)⟩
end
end DL
namespace DL
open PySem PySem.Spec L2 PyProof.Rows
def Wd(i:Int):Prop:=i.natAbs<2 ^ 8000
instance (i:Int):Decidable (Wd i):=by unfold Wd;infer_instance
def CMulW(i j:Int):Prop:=(Wd i/\Wd j)\/CMul i j
instance (i j:Int):Decidable (CMulW i j):=by unfold CMulW;infer_instance
def Qp(_ j:Int):Prop:=j≠0/\Wd j
instance (i j:Int):Decidable (Qp i j):=by unfold Qp;infer_instance
instance (i j:Int):Decidable (ZlQ i j):=by unfold ZlQ;infer_instance
theorem ZgE{i:Int}(h:Wd i)(h0:i≠0):i.natAbs.log2<8000:=(Nat.log2_lt (by omega)).mpr h
theorem CMulW.ok{i j:Int}(h:CMulW i j):IntMulOk i j:=by
 rcases h with⟨h1,h2⟩|h
 · have bits : ∀ {a : Int}, Wd a -> Builtin.Int.intBits a <= 2 ^ 20 := fun {a} ha => by
    unfold Builtin.Int.intBits
    by_cases h0:a=0
    · subst h0;decide
    · have:=ZgE ha h0
      have e:(2:Nat) ^ 20=1048576:=by decide
      rw [e]
      split<;>omega
   exact .of_bits (bits h1) (bits h2)
 · exact h.ok
section
variable{X:Cx}{cA:Kn}
theorem op_mulW:OpR X (binaryOp .Mult) (rI CMulW λi j => .int (i*j)):=opI λ_ _ _ _ _ _ _ hc q=>mul_int q hc.ok
theorem UF:OpR X (binaryOp .FloorDiv) (rI Qp λi j => .int (i.fdiv j)):=opI λ_ _ _ _ _ _ _ hc q=>floordiv_int hc.1 q (.inl (PyProof.noPylong_of_log2 (Nat.lt_trans (ZgE hc.2 hc.1) (by decide))))
def fdivW:D->D->Option D
 | .int i,.int j=>if Qp i j then some (.int (i.fdiv j))else none
 |_,_=>none
def modW:D->D->Option D
 | .int i,.int j=>if j≠0 then some (.int (i.fmod j))else none
 |_,_=>none
theorem ZiM{C:Int->Int->Prop} [∀i j,Decidable (C i j)]{g:Int->Int->Int}{f:D->D->Option D}(hf:∀x y d,f x y=some d->∃i j,x = .int i/\y = .int j/\C i j/\d = .int (g i j)):Xk cA (rI C λi j => .int (g i j)) f:=λt t' i H x y vx vy d _ hx hy e Q k=>by
 obtain⟨a,b,rfl,rfl,hc,rfl⟩:=hf x y d e;cases(show vx=_ from hx);cases(show vy=_ from hy);exact⟨_,_,rfl,rfl,hc,k _ H (Same.refl H) rfl⟩
theorem UG:Xk cA (rI Qp λi j => .int (i.fdiv j)) fdivW:=ZiM λx y d e=>by
 cases x<;>cases y<;>first|(cases e;done)|skip
 rename_i a b;dsimp only [fdivW]at e
 by_cases hz:Qp a b
 · rw [if_pos hz]at e;cases e;exact⟨_,_,rfl,rfl,hz,rfl⟩
 · rw [if_neg hz]at e;cases e
theorem Y4:Xk cA (rI (λ_ j=>j≠0) λi j => .int (i.fmod j)) modW:=ZiM λx y d e=>by
 cases x<;>cases y<;>first|(cases e;done)|skip
 rename_i a b;dsimp only [modW]at e
 by_cases hz:b≠0
 · rw [if_pos hz]at e;cases e;exact⟨_,_,rfl,rfl,hz,rfl⟩
 · rw [if_neg hz]at e;cases e
end
end DL
namespace L2
open PySem PySem.Spec PySem.W PyProof.Rows
def bmV:List Value:=[.type "ValueError",.type "Exception",.type "BaseException",.type "object"]
section
variable{X:Cx}{E:XK}{C:Addr}{x:Str}{p cpos pos:Pos}{e:Expr}{es:List Expr}{t:TA}
end
def CX1(P:Program)(w:World):CXT:=λouter H s E ev s'=>∃(ea:Addr) (cls a0:Value) (B:Heap) (H':Hp),ev = .ref ea/\s'.os=s.os/\AllBare s'.gens/\Heap.FlyingW B outer ea cls a0 s'.heap /\
 (∀b o,s.heap.get? b=some o->H b=none->b∉frs outer->B.get? b=some o)/\HOk P w H' B/\Same H H'/\(∀b o,s.heap.get? b=some o->H b=none->H' b=none)/\(∀b o,s.heap.get? b=some o->b∈frs outer->∃sl,s'.heap.get? b=some { o with slots:=sl })/\E cls none H'
section
variable{P:Program}{w:World}{K:PySem.W.Frag}{mg:Str->Option Value}{base:Heap}{N:List Str}{qual:Str}{scope:Scope}{f:Addr}{cd:Value}{A:Around}{outer:List Env}{s:Shared}{H:Hp}{E:XK}
end
end L2
namespace L2
open PySem PySem.Spec PySem.W PyProof.Rows PySem.Calls PySem.Builtin PySem.Builtin.ObjectAttr PySem.Builtin.Getset_descriptor
def ZkL(e:Addr)(C:Value)(hp:Heap):Prop:=∃o:Obj,hp.get? e=some o/\o.cls=C
structure ExCls(K:PySem.W.Frag)(C:Addr):Prop where
 ex:excIn K C bmV "ValueError.__new__" = true
 ga:findIn K (.ref C) "__getattribute__" = some (some (.builtin "BaseException.__getattribute__"))
 mb:mroIn K C (.type "BaseException")=some true
 gt:findIn K (.ref C) "__getattr__" = some none
 ca:findIn K (.ref C) "__class__" = some (some (.builtin "object.__class__"))
 cg:specialIn K (.builtin "object.__class__") "__get__" = some (some (.builtin "getset_descriptor.__get__"))
 ct:takesIn K (.builtin "object.__class__")=some true
 mo:mroIn K C (.type "object")=some true
 cl:(clsIn K C).isSome=true
section
variable{P:Program}{w:World}{A:Around}{E:Value->Shared->Prop}{s:Shared}{K:PySem.W.Frag}{e C:Addr}
end
end L2
namespace L2
open PySem PySem.Spec PySem.W PyProof.Rows
theorem ObjOk.there{P:Program}{w:World}{H:Hp}{hp:Heap}{a:Addr}{o:HO}(x:ObjOk P w H hp a o):∃u,hp.get? a=some u:=by
 cases o with
 |lst xs=>obtain⟨_,_,_,_,e⟩:=x;exact⟨_,e⟩
 |tup xs=>obtain⟨_,_,_,ob,e,_⟩:=x;exact⟨_,e⟩
 |dK kvs=>obtain⟨_,_,_,_,o,_,_,e,_⟩:=x;exact⟨_,e⟩
 |dT kvs=>obtain⟨_,_,_,_,o,_,_,e,_⟩:=x;exact⟨_,e⟩
 |set S n=>obtain⟨o,_,_,_,e,_⟩:=x;exact⟨_,e⟩
 |ins C dx fs=>obtain⟨_,_,_,e,_⟩:=x;exact⟨_,e⟩
 |own y=>exact x
 |xd fs=>obtain⟨_,⟨_,_,_,e,_⟩,_⟩:=x;exact⟨_,e⟩
 |rng lo hi=>obtain⟨_,_,_,e⟩:=x;exact⟨_,e⟩
 |frz ob u=>obtain⟨e,_⟩:=x;exact⟨_,e⟩
 |tbl ps=>exact⟨_,x⟩
 |met f y=>exact⟨_,x⟩
 |ext φ=>exact x.2.1
section
variable{X:Cx}{pins:List (Addr×Obj)}{σ:St}{H H':Hp}{s s':Shared}{B hp:Heap}{ea:Addr}{C:Value}
end
section
variable{X:Cx}{E:XK}
end
end L2
namespace L2
open PySem PySem.Spec PySem.W PyProof.Rows
section
variable{X:Cx}{G:Addr}{g n:Str}{i:Nat}{body suite:List Stmt}{b₀:Stmt}{gp hpos pos:Pos}{tb:XK->TS}{ts:Addr->Addr->TS}
end
end L2
namespace DL
open PySem PySem.Spec L2
def spX(cA:Kn)(n:Nat)(m:List D->Option D)(x:List D->Option String):Sp:=λvs H Q E=>spD cA n m vs H Q E \/
 ∃(av:Addr->Prop) (ds:List D) (c:String),(∀a,av a->H a≠none)/\RepL cA av H ds vs/\ds.length=n/\x ds=some c/\∀H',Same H H'->E (.ref (cA.c c)) none H'
def VX(G:Cn)(ow:List Nat)(E:XK)(ts:TS)(χ:Env->Option String):Prop:=
 ∀H0 av A σ H δ,ER G ow H0 av A σ H δ->∀c,χ δ=some c->(∀H',Same H0 H'->E (.ref (G.1.c c)) none H')->∀De:Ends,ts De σ H
section
variable{cA:Kn}{G:Cn}{ow ow1 owB owC owN:List Nat}{E:XK}
end
section
variable{P:Program}{w:World}{K:PySem.W.Frag}{mg:Str->Option Value}{base:Heap}{cA:Kn}
end
end DL
namespace DL
open PySem PySem.Spec L2
def Zmw(K:PySem.W.Frag)(cA:Kn)(v:V)(tab:List (String×Bool)):Prop:=∀c b,tab.lookup c=some b->∃cv,(∀u,RelV v u->u=cv)/\kitOne K (.ref (cA.c c)) cv=some b
inductive IsiEs(K:PySem.W.Frag)(cA:Kn):List V->List (List (String×Bool))->Prop where
 |nil:IsiEs K cA [] []
 |cons {v:V} {t:List (String×Bool)} {vs:List V} {ts:List (List (String×Bool))}:Zmw K cA v t->IsiEs K cA vs ts->IsiEs K cA (v::vs) (t::ts)
section
variable{cA:Kn}{G:Cn}{ow owB owC:List Nat}
theorem ER.none{H0 H:Hp}{av:Addr->Prop}{A:Nat->Option Addr}{σ:L2.St}{δ:Env}{i:Nat}{x:Option V}(R:ER G ow H0 av A σ H δ)(hi:ow.contains i=false)(hn:G.2 i=Option.none):ER G ow H0 av A (σ.set i x) H (δ.set i Option.none):=
 ⟨R.same,R.avd,R.fr,R.inj,R.live,R.dom,R.dom',by rw [List.length_set,List.length_set];exact R.len,R.pin,(λj v' e=>by
   have q:j≠i:=λz=>by rw [z,hn]at e;cases e
   rw [List.getElem?_set_ne (Ne.symm q)];exact R.kept j v' e),λj d e=>by
   have hj:j≠i:=by
    intro z;subst z
    by_cases hl:j<δ.length
    · rw [List.getElem?_set_self hl]at e;cases e
    · rw [List.getElem?_eq_none (by rw [List.length_set];omega)]at e;cases e
   rw [List.getElem?_set_ne (Ne.symm hj)]at e;obtain⟨v,h1,h2⟩:=R.var j d e;exact⟨v,by rw [List.getElem?_set_ne (Ne.symm hj)];exact h1,h2⟩⟩
end
end DL
namespace L2
open PySem PySem.Spec PyProof.Rows
section
variable{X:Cx}
def ZiN(K:PySem.W.Frag):R2:=λx y H Q=>∃l b xs zs,x = .ref l/\y = .ref b/\SqL K H l xs/\SqL K H b zs/\xs.length+zs.length<=sizeLine/\∀p,H p=none->Q (.ref p) (upd H p (.lst (xs++zs)))
theorem ZhD:OpR X (binaryOp .Add) (ZiN X.K):=by
 intro pins s σ H x y v u Q I rx ry h;obtain⟨l,b,xs,zs,rfl,rfl,hH,hB,hz,q⟩:=h;cases rx;cases ry;obtain⟨its,r,pl,_⟩:=I.list hH;obtain⟨its2,r2,pl2,_⟩:=I.list hB;obtain⟨⟨c1,d1,da1,sl1⟩,n1,g1,e1,e2,e3⟩:=pl;obtain⟨⟨c2,d2,da2,sl2⟩,n2,g2,f1,f2,f3⟩:=pl2;dsimp only at e1 e2 e3 f1 f2 f3;subst e1 e2 e3 f1 f2 f3;have hl:=r.length;have hl2:=r2.length;refine concat_meets ⟨_,g1,rfl⟩ ⟨_,g2,rfl⟩ noFill_list_add seq_list_add PySem.F.slot_list_add PySem.F.entry_list_add (PySem.F.args_list_add_2 _ _) (list_addW l b its.toArray its2.toArray n1 n2 none none sl1 sl2 (by rw [List.size_toArray,List.size_toArray];omega)) ⟨g1,g2,?_⟩
 have ea:its.toArray++its2.toArray=(its++its2).toArray:=by simp
 rw [ea];exact⟨.ref _,_,I.lnew (t':=s.toks) (r.append r2) (by rw [List.length_append];omega),rfl,q _ I.fresh⟩
def ZiO(K:PySem.W.Frag):R2:=λx y H Q=>∃l k xs,x = .ref l/\y = .int k/\SqL K H l xs /\ -(2 ^ 63)<=k/\k<2 ^ 63/\xs.length*k.toNat<=sizeLine/\∀p,H p=none->Q (.ref p) (upd H p (.lst (List.replicate k.toNat xs).flatten))
theorem ZhE:OpR X (binaryOp .Mult) (ZiO X.K):=by
 intro pins s σ H x y v u Q I rx ry h;obtain⟨l,k,xs,rfl,rfl,hH,h1,h2,hz,q⟩:=h;cases rx;obtain⟨t,rfl⟩:=ry;obtain⟨its,r,pl,_⟩:=I.list hH;obtain⟨⟨c1,d1,da1,sl1⟩,n1,g1,e1,e2,e3⟩:=pl;dsimp only at e1 e2 e3;subst e1 e2 e3;have hl:=r.length;have hlen:its.toArray.size*k.toNat<=sizeLine:=by rw [List.size_toArray,<-hl];exact hz
 have hcap:¬its.toArray.size*k.toNat>(2 ^ 63-1) / 8:=by
  have:(sizeLine:Nat)<=(2 ^ 63-1) / 8:=by decide
  omega
 have hfit:¬(!Builtin.List.listFitsIndex k)=true:=by
  rw [fitsIndex_both h1 h2];exact Bool.false_ne_true
 have hlong:¬Builtin.List.listTooLong (its.toArray.size*k.toNat)=true:=by
  rw [ZfJ hlen];exact Bool.false_ne_true
 have hnew:List.foldl (λx1 x2=>x1++x2) #[] (List.replicate (if its.toArray.isEmpty=true then 0 else k.toNat) its.toArray)=(List.replicate k.toNat its).flatten.toArray:=by
  have f0:∀m:Nat,List.foldl (λx1 x2=>x1++x2) #[] (List.replicate m its.toArray)=(List.replicate m its).flatten.toArray:=λm=>by
   have:=Zbx its m [];rw [List.nil_append]at this;exact this
  rw [f0];cases its with
  |nil=>simp
  |cons a r'=>rw [if_neg (by simp)]
 refine wpAny_binaryOp_repeat_ref (T:="list") (U:="int") (by decide) ⟨_,g1,rfl⟩ (λs'=>typeIs_int s' k t) noFill_list_mul F.fills_int_mul F.slot_int_rmul repeat_list F.slot_int_index.lookup
  (call_meets F.slot_int_rmul (typeIs_int s k t) F.entry_int_rmul (F.args_int_rmul_2 _ _) (lm_int_rmul_list_any k t l its.toArray n1 none sl1)
    ⟨g1,rfl,⟨_,g1,rfl⟩,call_meets F.slot_list_mul ⟨_,g1,rfl⟩ F.entry_list_mul (F.args_list_mul_2 _ _) (lm_list_mul_any l its.toArray n1 none sl1 k t hfit hcap hlong) ⟨g1,?_⟩⟩)
 rw [hnew];exact⟨.ref _,_,I.lnew (t':=s.toks) (r.rep k.toNat) (by rw [Zhq,Nat.mul_comm];exact hz),rfl,q _ I.fresh⟩
def QY(K:PySem.W.Frag):R2:=λx y H Q=>rI0 (λi j => .int (i+j)) x y H Q\/rAddS x y H Q\/ZiN K x y H Q
theorem ZhF:OpR X (binaryOp .Add) (QY X.K):=op_add.or (op_addS.or ZhD)
theorem Yh{K:PySem.W.Frag}(hK:X.K=K:=by rfl):OpR X (binaryOp .Add) (QY K):=hK▸ZhF
def JG(K:PySem.W.Frag):R2:=λx y H Q=>rI DL.CMulW (λi j => .int (i*j)) x y H Q\/DL.rMulS x y H Q\/ZiO K x y H Q
theorem ZhG:OpR X (binaryOp .Mult) (JG X.K):=DL.op_mulW.or (DL.op_mulS.or ZhE)
theorem QZ{K:PySem.W.Frag}(hK:X.K=K:=by rfl):OpR X (binaryOp .Mult) (JG K):=hK▸ZhG
end
end L2
namespace DL
open PySem PySem.Spec L2
section
variable{cA:Kn}{G:Cn}{ow owB owC:List Nat}
theorem Zev{i:Addr->Prop}{H:Hp}{p:Addr}{xs:List D}{vs:List V}(hi:∀a,i a->H a≠none)(hp:H p=none)(l:RepL cA i H xs vs):Rep cA i (upd H p (.lst vs)) (.lst xs) (.ref p):=by
 unfold Rep;exact⟨p,vs,rfl,λz=>(hi p z hp).elim,SqL.of ZO,l.same (ZW hp)⟩
def addX:D->D->Option D
 | .lst a,.lst b=>if a.length+b.length<=sizeLine then some (.lst (a++b))else none
 |x,y=>addD x y
theorem Yw:Xk cA (QY cA.K) addX:=λt t' i H x y vx vy d hi hx hy e Q k=>by
 have old:addD x y=some d->QY cA.K vx vy H Q:=λe=>by
  rcases(Zjt (cA:=cA) t t' i H x y vx vy d hi hx hy e Q k)with h|h|h
  · exact .inl h
  · exact .inr (.inl h)
  · obtain⟨l,b,xs,zs,e1,e2,h1,h2,h3,h4⟩:=h
    exact .inr (.inr ⟨l,b,xs,zs,e1,e2,SqL.of h1,SqL.of h2,h3,h4⟩)
 cases x with
 |lst a=>
  cases y with
  |lst b=>
   dsimp only [addX]at e
   by_cases hz:a.length+b.length<=sizeLine
   · rw [if_pos hz]at e
     cases e;obtain⟨a1,vs1,rfl,_,r1,l1⟩:=hx;obtain⟨a2,vs2,rfl,_,r2,l2⟩:=hy;exact .inr (.inr ⟨a1,a2,vs1,vs2,rfl,rfl,r1,r2,by rw [<-l1.length,<-l2.length];exact hz,λp hp=>k _ _ (ZW hp) (Zev hi hp (l1.append l2))⟩)
   · rw [if_neg hz]at e;cases e
  |_=>exact old e
 |_=>exact old e
theorem RepL.rep{av:Addr->Prop}{H:Hp}{xs:List D}{vs:List V}(l:RepL cA av H xs vs):∀n:Nat,RepL cA av H (List.replicate n xs).flatten (List.replicate n vs).flatten
 |0 => .nil
 |n+1=>by
  rw [List.replicate_succ,List.replicate_succ,List.flatten_cons,List.flatten_cons];exact l.append (RepL.rep l n)
def mulX:D->D->Option D
 | .int i,.int j=>if CMulW i j then some (.int (i*j))else none
 | .str a,.int n=>if n<2 ^ 63 /\ -(2 ^ 63)<=n/\a.length*n.toNat<=sizeLine then some (.str (Qk a n))else none
 | .lst a,.int n=>if n<2 ^ 63 /\ -(2 ^ 63)<=n/\a.length*n.toNat<=sizeLine then some (.lst (List.replicate n.toNat a).flatten)else none
 |_,_=>none
theorem JH:Xk cA (JG cA.K) mulX:=λt t' i H x y vx vy d hi hx hy e Q k=>by
 cases x<;>cases y<;>first|(cases e;done)|skip
 · cases(show vx=_ from hx);cases(show vy=_ from hy)
   rename_i a b;dsimp only [mulX]at e
   by_cases hz:CMulW a b
   · rw [if_pos hz]at e
     cases e;exact .inl ⟨_,_,rfl,rfl,hz,k _ H (Same.refl H) rfl⟩
   · rw [if_neg hz]at e;cases e
 · cases(show vx=_ from hx);cases(show vy=_ from hy)
   rename_i a n;dsimp only [mulX]at e
   by_cases hz:n<2 ^ 63 /\ -(2 ^ 63)<=n/\a.length*n.toNat<=sizeLine
   · rw [if_pos hz]at e
     cases e;exact .inr (.inl ⟨_,_,rfl,rfl,hz,k _ H (Same.refl H) rfl⟩)
   · rw [if_neg hz]at e;cases e
 · rename_i a n
   cases(show vy=_ from hy);dsimp only [mulX]at e
   by_cases hz:n<2 ^ 63 /\ -(2 ^ 63)<=n/\a.length*n.toNat<=sizeLine
   · rw [if_pos hz]at e
     cases e;obtain⟨a1,vs1,rfl,_,r1,l1⟩:=hx;exact .inr (.inr ⟨a1,n,vs1,rfl,rfl,r1,hz.2.1,hz.1,by rw [<-l1.length];exact hz.2.2,λp hp=>k _ _ (ZW hp) (Zev hi hp (l1.rep n.toNat))⟩)
   · rw [if_neg hz]at e;cases e
def XH(i:Nat)(κ ε:Env->Option D)(δ:Env):Option Out:=match ε δ with
 |some d=>match Za i δ with
  |some (.lst xs)=>match κ δ with
   |some (.int k)=>match ixN xs.length k with
    |some j=>some (.nx (δ.set i (some (.lst (xs.set j d)))))
    |none=>none
   |_=>none
  |_=>none
 |none=>none
theorem Zb9{te ti:TE}{q:Ql}{ε κ:Env->Option D}(i:Nat)(hi:ow.contains i=true)(h:VE G ow te .cl ε)(hk:VE G ow ti q κ):VS G ow ow owB owC (X3 te (ZlO (YR i) ti rSetL)) (XH i κ ε):=λH0 av A σ H δ E o e De k=>by
 unfold XH at e;cases he:ε δ with
 |none=>rw [he]at e;cases e
 |some d=>
  rw [he]at e;dsimp only at e;cases hv:Za i δ with
  |none=>rw [hv]at e;cases e
  |some x=>
   rw [hv]at e;cases x<;>first|(cases e;done)|skip
   rename_i xs;dsimp only at e;cases hq:κ δ with
   |none=>rw [hq]at e;cases e
   |some y=>
    rw [hq]at e;cases y<;>first|(cases e;done)|skip
    rename_i n;dsimp only at e;cases hj:ixN xs.length n with
    |none=>rw [hj]at e;cases e
    |some j=>
     rw [hj]at e;cases e;have hi':i∈ow:=by simpa using hi
     cases hA:A i with
     |none=>exact absurd hA (E.dom' i hi')
     |some a=>
      refine h H0 av A σ H δ E d he _ λv H1 s1 r1 => ?_
      have E1:=E.mono s1;obtain⟨v0,h1,_,h3⟩:=E1.var i _ (Xj hv);obtain⟨rfl,vs,q1,q2⟩:=h3 a hA;refine⟨_,h1,hk H0 av A σ H1 δ E1 _ hq _ λy H2 s2 r2 => ?_⟩;have ey:y = .int n:=r2.any;subst ey;have E2:=E1.mono s2;have q1':=s2 _ _ q1;refine⟨a,vs,n,j,rfl,rfl,q1',by rw [<-q2.length];exact hj,k A σ _ (E2.put hA (Xj hv) (λb o hb e=>by rw [Zz hb];exact e) (by rw [ZO];exact λz=>by cases z) ⟨_,ZO,?_⟩)⟩
      have ex:∀b o,¬AV av A b->H2 b=some o->upd H2 a (.lst (vs.set j v)) b=some o:=λb o nb e=>by
       rw [Zz λz=>nb (.inr ⟨i,by rw [z];exact hA⟩)];exact e
      exact(((q2.same s2).set ((RepT.r r1).same s2) j)).ext ex
end
end DL
namespace L2
open PySem PySem.W
end L2
namespace DL
open L2
theorem VX.frz{G:Cn}{ow ow1:List Nat}{E:XK}{t:TS}{χ:Env->Option String}(i:Nat)(h:VX G ow1 E t χ)(hn:G.2 i=none)(h1:sub ow1 ow=true)(h2:ow1.contains i=false)(h3:sub ow (i::ow1)=true):VX G ow E t χ:=λH0 av A σ H δ R c e k De=>
 h H0 av _ σ H δ (R.freeze i (ZaE h1 h2 h3) hn) c e k De
end DL
namespace L2
open PySem
end L2
namespace L2
open PySem
end L2
namespace L2
open PySem PySem.Spec PySem.W PyProof.Rows
section
variable{X:Cx}{e:Expr}{te:TE}{pos:Pos}
inductive PJ(X:Cx):List Expr->List TE->Prop where
 |nil:PJ X [] []
 |cons {e:Expr} {es:List Expr} {t:TE} {ts:List TE}:PE X e t->PJ X es ts->PJ X (e::es) (t::ts)
end
end L2
namespace DL
open PySem PySem.Spec L2
section
variable{G:Cn}{ow:List Nat}
inductive VJ(G:Cn)(ow:List Nat):List TE->List (Env->Option D)->Prop where
 |nil:VJ G ow [] []
 |cons {t:TE} {a:Env->Option D} {ts:List TE} {as:List (Env->Option D)}:VE G ow t .cl a->VJ G ow ts as->VJ G ow (t::ts) (a::as)
end
end DL
namespace L2
open PySem PySem.Spec PySem.W PyProof.Rows
section
variable{X:Cx}{E:XK}
end
end L2
namespace DL
open PySem PySem.Spec L2
abbrev XTab:=List (String×(Nat×(List D->Option D)×(List D->Option String)))
structure MethOkX(X:Cx)(cA:Kn)(k:Nat)(m:String)(c:String)(n:Nat)(mm:List D->Option D)(xm:List D->Option String):Prop where
 ex:∃f fd ps,Cls X.K (cA.c c)/\Meth X.K (cA.c c) (Str.ofString m) f/\FnOk X.prog X.w X.K X.mg X.base (CX1 X.prog X.w) k f fd ps (spX cA n mm xm)/\Binds X.K fd ps []
def MTOkX(X:Cx)(cA:Kn)(k:Nat)(m:String):XTab->Prop
 | []=>True
 |(c,n,mm,xm)::r=>MethOkX X cA k m c n mm xm/\MTOkX X cA k m r
theorem MTOkX.get{X:Cx}{cA:Kn}{k:Nat}{m:String}:∀{tab:XTab}{c:String}{n:Nat}{mm:List D->Option D}{xm:List D->Option String},MTOkX X cA k m tab->tab.lookup c=some (n,mm,xm)->MethOkX X cA k m c n mm xm
 | [],_,_,_,_,_,h=>by simp at h
 |(c',n',mm',xm')::r,c,n,mm,xm,T,h=>by
  rw [List.lookup_cons]at h;cases hc:c == c' with
  |true=>
   rw [hc]at h;cases h;have:c=c':=eq_of_beq hc;subst this;exact T.1
  |false=>
   rw [hc]at h;exact MTOkX.get T.2 h
section
variable{X:Cx}{cA:Kn}{k:Nat}{m:String}{tab:XTab}{o e:Expr}{es:List Expr}{ta:TE}{t:TA}{pos apos:Pos}{pl:Sem Bool}{E:XK}
end
section
variable{cA:Kn}{G:Cn}{ow ow1 owB owC owN:List Nat}{E:XK}
end
end DL
namespace L2
open PySem PySem.Spec PySem.W PyProof.Rows
theorem Za2:∀(cs:List Nat)(its:List Value),its.length=cs.length->(∀(j:Nat)(v:Value),its[j]? = some v->∃(c:Nat) (u:Tok),cs[j]? = some c/\v=Value.str ⟨#[c]⟩ u)->Vals (cs.map λc=>S [c]) its
 | [],[],_,_ => .nil
 |c::cs,[],h,_=>by simp at h
 | [],v::its,h,_=>by simp at h
 |c::cs,v::its,h,k=>by
  refine .cons ?_ (Za2 cs its (by simpa using h) λj v hj=>by simpa using k (j+1) v (by simpa using hj));obtain⟨c',u,e1,e2⟩:=k 0 v rfl;cases e1;exact⟨u,e2⟩
def ZiP(K:PySem.W.Frag):List V->Hp->VK->Prop:=λxs H Q=>Zjq K xs H Q\/∃cs,xs=[S cs]/\cs.length<=sizeLine/\∀l,H l=none->Q (.ref l) (upd H l (.lst (cs.map λc=>S [c])))
theorem UX{X:Cx}{K:PySem.W.Frag}(hc:X.calm=true:=by rfl)(hK:X.K=K:=by rfl):Ym X (.type "list") (ZiP K):=by
 subst hK;intro pins s σ H xs us Q I r h;rcases h with h|⟨cs,rfl,hz,q⟩
 · exact ZbY pins s σ H xs us Q I r h
 · obtain⟨u,rfl,rx⟩:=Y2 r
   obtain⟨t,rfl⟩:=rx;refine call_list_str (I.ok.hd hc) (tx cs) t (λh' tk acc' c' kp e hi => ?_) (by simpa using hz)
   have hv:Vals (cs.map λc=>S [c]) acc'.toList:=Za2 cs _ (by simpa using hi.1) λj v hj=>by
    obtain⟨c,u,e1,e2⟩:=hi.2 j v (by simpa using hj);exact⟨c,u,by simpa using e1,e2⟩
   exact⟨.ref s.heap.objs.size,_,I.laid (t':=tk) kp (Nat.le_refl _) (show ObjOk X.prog X.w _ h' _ (.lst _)from⟨by rw [List.length_map];exact hz,acc'.toList,c',hv,e⟩),rfl,q _ (I.hok.fresh (Nat.le_refl _))⟩
end L2
namespace DL
open PySem PySem.Spec L2
def Y5:List D->Option D
 | [.str cs]=>if cs.length<=sizeLine then some (.lst (cs.map λc => .str [c]))else none
 |ds=>ZiG ds
section
variable{G:Cn}{ow:List Nat}
theorem Za3{cA:Kn}{av:Addr->Prop}{H:Hp}:∀cs:List Nat,RepL cA av H (cs.map λc=>D.str [c]) (cs.map λc=>S [c])
 | [] => .nil
 |c::cs => .cons rfl (Za3 cs)
theorem UY{t:TA}{q:Ql}{α:Env->Option (List D)}(hq:q = .cl\/q = .tp)(h:VA G ow t q α):VF G ow (tCB (ZiP G.1.K) t) (eCB Y5 α):=λH0 av A σ H δ E d e Q k=>by
 unfold eCB at e;cases he:α δ with
 |none=>rw [he]at e;cases e
 |some ds=>
  rw [he]at e;replace e:Y5 ds=some d:=e;unfold Y5 at e
  split at e
  · rename_i cs
    by_cases hz:cs.length<=sizeLine
    · rw [if_pos hz]at e
      cases e;refine h H0 av A σ H δ E _ he _ λvs H1 s1 r1 => ?_
      have il:UV G.1 (AV av A) H1 [.str cs] vs:=by
       rcases hq with rfl|rfl<;>exact r1.il
      obtain⟨v,t,rfl,hx⟩:=il1 il;cases(show v=_ from hx);exact .inr ⟨cs,rfl,hz,λp hp=>k p _ _ H1 s1 hp (Za3 cs) rfl⟩
    · rw [if_neg hz]at e;cases e
  · exact h H0 av A σ H δ E _ he _ fun vs H1 s1 r1 => by
     have il:UV G.1 (AV av A) H1 ds vs:=by
      rcases hq with rfl|rfl<;>exact r1.il
     refine .inl ?_;unfold ZiG at e
     split at e
     · rename_i xs
       cases e;obtain⟨v,t,rfl,a,ws,rfl,_,rd,l⟩:=il1 il;exact⟨a,ws,rfl,.inl rd,λp hp=>k p ws _ H1 s1 hp l rfl⟩
     · rename_i xs
       cases e;obtain⟨v,t,rfl,a,ws,rfl,_,rd,l⟩:=il1 il;exact⟨a,ws,rfl,.inr (SqT.of rd),λp hp=>k p ws _ H1 s1 hp l rfl⟩
     · cases e
end
end DL
namespace L2
open PySem PySem.Spec PySem.W PyProof.Rows
structure RoomE(k:Nat)(A:Around):Prop where
 dp:A.depth+3*k+5<recursionLimit
 un:A.units+16*k+200<cLine
structure FnOkE(P:Program)(w:World)(K:PySem.W.Frag)(mg:Str->Option Value)(base:Heap)(k:Nat)(f:Addr)(fd:FuncData)(ps:List Str)(sp:List V->Hp->VK->Prop):Prop where
 len:∀vs H Q,sp vs H Q->vs.length=ps.length
 run:∀(A:Around)(outer:List PySem.Env)(s:Shared)(H:Hp)(args:Args)(us:List Value)(vs:List V)(Q:VK),RoomE k A->Env0 P w K mg base A outer s H->BindsTo s fd args (ps.zip us)->Vals vs us->sp vs H Q ->
  codeAny (model P w) A (.call (.ref f) args) (CR CX0 outer P w H s Q E0) s
end L2
namespace DL
open PySem PySem.Spec L2
def Zjv(K:PySem.W.Frag)(cA:Kn)(i:Nat)(mk:Addr->Addr->TE)(tab:List (String×Bool)):Prop:=∀(c:String)(b:Bool)(ea:Addr)(σ:L2.St)(H:Hp)(Q:VK),ExCls K (cA.c c)->tab.lookup c=some b->σ[i]? = some (some (.ref ea))->H ea=some (.ext (ZkL ea (.ref (cA.c c))))->(∀H',Same H H'->Q (.bl b) H')->mk (cA.c c) ea σ H Q
inductive Items(K:PySem.W.Frag)(cA:Kn)(i:Nat):List (Addr->Addr->TE)->List (List (String×Bool))->Prop where
 |nil:Items K cA i [] []
 |cons {m:Addr->Addr->TE} {t:List (String×Bool)} {ms:List (Addr->Addr->TE)} {ts:List (List (String×Bool))}:Zjv K cA i m t->Items K cA i ms ts->Items K cA i (m::ms) (t::ts)
section
variable{cA:Kn}{G:Cn}{ow owB owC:List Nat}
end
end DL
namespace L2
open PySem PySem.Spec PyProof.Rows
section
variable{X:Cx}{elts:List Expr}{x1:Nat}{tpos:Pos}
end
end L2
namespace DL
open PySem PySem.Spec L2
section
variable{cA:Kn}{G:Cn}{ow:List Nat}
end
end DL
namespace DL
open PySem PySem.Spec L2
def mat(rows:List (List D)):D := .lst (rows.map D.lst)
structure Mx(H:Hp)(a:Addr)(bs:List Addr)(rows:List (List D)):Prop where
 top:H a=some (.lst (bs.map V.ref))
 len:bs.length=rows.length
 nd:bs.Nodup
 na:a∉bs
 row:∀(k:Nat)(b:Addr)(r:List D),bs[k]? = some b->rows[k]? = some r->H b=some (.lst (r.map val))
 sc:∀r∈rows,r.all ZE=true
section
variable{H H':Hp}{a:Addr}{bs:List Addr}{rows:List (List D)}
theorem Mx.mem(M:Mx H a bs rows){b:Addr}(h:b∈bs):∃r∈rows,H b=some (.lst (r.map val)):=by
 obtain⟨k,hk,e⟩:=List.mem_iff_getElem.mp h;have hk2:k<rows.length:=by rw [<-M.len];exact hk
 exact⟨rows[k],List.getElem_mem hk2,M.row k b _ (by rw [List.getElem?_eq_getElem hk,e]) (List.getElem?_eq_getElem hk2)⟩
theorem Mx.there(M:Mx H a bs rows){x:Addr}(h:x∈a::bs):∃vs,H x=some (.lst vs):=by
 rcases List.mem_cons.mp h with rfl|h
 · exact⟨_,M.top⟩
 · obtain⟨r,_,e⟩:=M.mem h
   exact⟨_,e⟩
theorem Mx.mono(M:Mx H a bs rows)(k:Same H H'):Mx H' a bs rows:=⟨k _ _ M.top,M.len,M.nd,M.na,λn b r h1 h2=>k _ _ (M.row n b r h1 h2),M.sc⟩
theorem Mx.rep{cA:Kn}{av:Addr->Prop}(M:Mx H a bs rows)(hn:∀x∈a::bs,¬av x):Rep cA av H (mat rows) (.ref a):=by
 have go:∀(bs:List Addr)(rows:List (List D)),bs.length=rows.length->(∀x∈bs,¬av x)->(∀(k:Nat)(b:Addr)(r:List D),bs[k]? = some b->rows[k]? = some r->H b=some (.lst (r.map val)))->(∀r∈rows,r.all ZE=true)->RepL cA av H (rows.map D.lst) (bs.map V.ref):=by
  intro bs
  induction bs with
  |nil=>
   intro rows hl _ _ _;cases rows with
   |nil=>exact .nil
   |cons _ _=>simp at hl
  |cons b bs ih=>
   intro rows hl hn hr hs;cases rows with
   |nil=>simp at hl
   |cons r rows=>
    refine .cons ?_ (ih rows (by simpa using hl) (λx hx=>hn x (List.mem_cons_of_mem _ hx)) (λk b r h1 h2=>hr (k+1) b r (by simpa using h1) (by simpa using h2)) λr hr=>hs r (List.mem_cons_of_mem _ hr));unfold Rep;exact⟨b,r.map val,rfl,λz=>(hn b List.mem_cons_self z).elim,SqL.of (hr 0 b r rfl rfl),.of_vals (hs r List.mem_cons_self)⟩
 unfold mat Rep;exact⟨a,bs.map V.ref,rfl,λz=>(hn a List.mem_cons_self z).elim,SqL.of M.top,go bs rows M.len (λx hx=>hn x (List.mem_cons_of_mem _ hx)) M.row M.sc⟩
end
open Classical in
noncomputable def ovl(H0 H:Hp)(F:List Addr):Hp:=λx=>if x∈F then H x else H0 x
theorem XI{H0 H:Hp}{F:List Addr}{x:Addr}(h:x∈F):ovl H0 H F x=H x:=if_pos h
theorem Xf{H0 H:Hp}{F:List Addr}{x:Addr}(h:x∉F):ovl H0 H F x=H0 x:=if_neg h
abbrev Cn.keep(G:Cn)(i:Nat)(v:V):Cn:=⟨G.1,λj=>if j=i then some (.inr v)else G.2 j⟩
abbrev avF(av:Addr->Prop)(F:List Addr):Addr->Prop:=λx=>av x\/x∈F
def PinOk(G:Cn)(i:Nat)(σ:L2.St):Prop:=∀z,G.2 i=some z->∃v,z = .inr v/\σ[i]? = some (some v)
theorem PinOk.none{G:Cn}{i:Nat}{σ:L2.St}(h:G.2 i=Option.none):PinOk G i σ:=λz e=>by rw [h]at e;cases e
theorem PinOk.set{G:Cn}{i k:Nat}{σ:L2.St}{x:Option V}(h:PinOk G i σ)(hk:k≠i):PinOk G i (σ.set k x):=λz e=>by
 obtain⟨v,h1,h2⟩:=h z e;exact⟨v,h1,by rw [List.getElem?_set_ne hk];exact h2⟩
structure MR(G:Cn)(ow:List Nat)(i:Nat)(H0:Hp)(av:Addr->Prop)(A:Nat->Option Addr)(σ:L2.St)(H:Hp)(δ:Env):Prop where
 ni:i∉ow
 nn:PinOk G i σ
 avd:∀x,av x->H0 x≠none
 ex:∃a bs rows,δ[i]? = some (some (mat rows))/\Mx H a bs rows/\(∀x∈a::bs,H0 x=none)/\ER (G.keep i (.ref a)) ow (ovl H0 H (a::bs)) (avF av (a::bs)) A σ H (δ.set i none)
section
variable{cA:Kn}{G:Cn}{ow owN owB owC ow1:List Nat}{i:Nat}{H0 H H':Hp}{av:Addr->Prop}{A:Nat->Option Addr}{σ:L2.St}{δ:Env}
theorem Qq{j:Nat}{v:V}(h:j≠i):(G.keep i v).2 j=G.2 j:=if_neg h
theorem Qr{v:V}:(G.keep i v).2 i=some (.inr v):=if_pos rfl
theorem MR.view(R:MR G ow i H0 av A σ H δ):ER G ow H0 av A σ H δ:=by
 obtain⟨a,bs,rows,hd,M,h0,E⟩:=R.ex
 have nF:∀j x,A j=some x->x∉a::bs:=λj x e z=>by
  have:=E.fr j x e;rw [XI z]at this;obtain⟨vs,q⟩:=M.there z;rw [q]at this;cases this
 have hAi:A i=none:=by
  cases q:A i with
  |none=>rfl
  |some x=>exact(R.ni (E.dom i (by rw [q];exact λz=>by cases z))).elim
 have less:∀b,AV av A b->AV (avF av (a::bs)) A b:=λb z=>z.elim (λz => .inl (.inl z)) .inr
 have hil:i<δ.length:=(List.getElem?_eq_some_iff.mp hd).1;refine⟨λb o e => ?_,R.avd,λj x e => ?_,E.inj,E.live,E.dom,E.dom',by rw [E.len,List.length_set],λj x e => ?_,λj v e => ?_,λj d e => ?_⟩
 · have nb:b∉a::bs:=λz=>by rw [h0 b z]at e;cases e
   exact E.same b o (by rw [Xf nb];exact e)
 · have:=E.fr j x e
   rw [Xf (nF j x e)]at this;exact this
 · have q : j ≠ i := fun z => by
    obtain⟨v,h1,_⟩:=R.nn _ (z▸e);cases h1
   exact E.pin j x (by rw [Qq q];exact e)
 · by_cases q:j=i
   · obtain⟨v',h1,h2⟩:=R.nn _ (q▸e)
     cases h1;rw [q];exact h2
   · exact E.kept j v (by rw [Qq q];exact e)
 · by_cases q:j=i
   · subst q
     rw [hd]at e;cases e;refine⟨.ref a,E.kept j _ Qr,λ_=>M.rep λx hx z => ?_,λb z=>by rw [hAi]at z;cases z⟩;rcases z with z|⟨k,z⟩
     · exact R.avd x z (h0 x hx)
     · exact nF k x z hx
   · obtain⟨v,h1,h2,h3⟩:=E.var j d (by rw [List.getElem?_set_ne (Ne.symm q)];exact e)
     refine⟨v,h1,λz=>(h2 z).av λb z => .inl (less b z),λb z => ?_⟩;obtain⟨r1,r2⟩:=h3 b z;refine⟨r1,?_⟩;cases d with
     |lst xs=>obtain⟨vs,q1,q2⟩:=r2;exact⟨vs,q1,q2.av λb z => .inl (less b z)⟩
     |obj c ks xs=>obtain⟨dx,vs,q1,q0,q2⟩:=r2;exact⟨dx,vs,q1,q0,q2.av λb z => .inl (less b z)⟩
     |dct ks xs=>obtain⟨vs,q1,q0,q2⟩:=r2;exact⟨vs,q1,q0,q2.av λb z => .inl (less b z)⟩
     |dtt ks xs=>obtain⟨vs,q1,q0,q2⟩:=r2;exact⟨vs,q1,q0,q2.av λb z => .inl (less b z)⟩
     |_=>exact r2
theorem Zbf{a:Addr}{bs:List Addr}{rows:List (List D)}(M:Mx H a bs rows)(k:Same H H'):ovl H0 H' (a::bs)=ovl H0 H (a::bs):=by
 funext x
 by_cases h:x∈a::bs
 · rw [XI h,XI h]
   obtain⟨vs,q⟩:=M.there h;rw [q,k _ _ q]
 · rw [Xf h,Xf h]
theorem MR.mono(R:MR G ow i H0 av A σ H δ)(k:Same H H'):MR G ow i H0 av A σ H' δ:=by
 obtain⟨a,bs,rows,hd,M,h0,E⟩:=R.ex;exact⟨R.ni,R.nn,R.avd,a,bs,rows,hd,M.mono k,h0,by rw [Zbf M k];exact E.mono k⟩
theorem MR.set{k:Nat}{d:D}(R:MR G ow i H0 av A σ H δ)(hs:ZE d=true)(hk:k≠i)(hw:∀j,j∈owN ↔ j∈ow/\j≠k)(hn:G.2 k=none):MR G owN i H0 av (λj=>if j=k then none else A j) (σ.set k (some (val d))) H (δ.set k (some d)):=by
 obtain⟨a,bs,rows,hd,M,h0,E⟩:=R.ex;refine⟨λz=>R.ni ((hw i).mp z).1,R.nn.set hk,R.avd,a,bs,rows,by rw [List.getElem?_set_ne hk];exact hd,M,h0,?_⟩;rw [List.set_comm _ _ hk];exact E.set (.of_val hs) hw (by rw [Qq hk];exact hn)
theorem MR.turn {a:Addr} {bs:List Addr} {rows rows':List (List D)} (ni:i∉ow) (nn:PinOk G i σ) (havd:∀x,av x->H0 x≠none) (hd:δ[i]? = some (some (mat rows))) (M:Mx H a bs rows) (h0:∀x∈a::bs,H0 x=none) (E:ER (G.keep i (.ref a)) ow (ovl H0 H (a::bs)) (avF av (a::bs)) A σ H (δ.set i none))
 (M':Mx H' a bs rows') (hk:∀x,x∉a::bs->H' x=H x):MR G ow i H0 av A σ H' (δ.set i (some (mat rows'))):=by
 have hil:i<δ.length:=(List.getElem?_eq_some_iff.mp hd).1
 have nF:∀j x,A j=some x->x∉a::bs:=λj x e z=>by
  have:=E.fr j x e;rw [XI z]at this;obtain⟨vs,q⟩:=M.there z;rw [q]at this;cases this
 refine⟨ni,nn,havd,a,bs,rows',List.getElem?_set_self hil,M',h0,?_⟩;have e1:(δ.set i (some (mat rows'))).set i none=δ.set i none:=List.set_set ..;rw [e1];refine⟨λb o e => ?_,λx z => ?_,λj x e => ?_,E.inj,λj x e => ?_,E.dom,E.dom',E.len,E.pin,E.kept,λj d e => ?_⟩
 · by_cases h:b∈a::bs
   · rw [XI h]at e;exact e
   · rw [Xf h]at e
     rw [hk b h];exact E.same b o (by rw [Xf h];exact e)
 · by_cases h:x∈a::bs
   · rw [XI h]
     obtain⟨vs,q⟩:=M'.there h;rw [q];exact λz=>by cases z
   · rw [Xf h]
     exact havd x (z.resolve_right h)
 · have:=E.fr j x e
   rw [Xf (nF j x e)]at this ⊢;exact this
 · rw [hk x (nF j x e)]
   exact E.live j x e
 · have ex : ∀ b o, ¬ AV (avF av (a :: bs)) A b -> H b = some o -> H' b = some o := fun b o n e => by
    rw [hk b λz=>n (.inl (.inr z))];exact e
   obtain⟨v,h1,h2,h3⟩:=E.var j d e;refine⟨v,h1,λz=>(h2 z).ext ex,λb z => ?_⟩;obtain⟨r1,r2⟩:=h3 b z;refine⟨r1,?_⟩;cases d with
   |lst xs=>obtain⟨vs,q1,q2⟩:=r2;exact⟨vs,by rw [hk b (nF j b z)];exact q1,q2.ext ex⟩
   |obj c ks xs=>obtain⟨dx,vs,q1,q0,q2⟩:=r2;exact⟨dx,vs,by rw [hk b (nF j b z)];exact q1,q0,q2.ext ex⟩
   |dct ks xs=>obtain⟨vs,q1,q0,q2⟩:=r2;exact⟨vs,by rw [hk b (nF j b z)];exact q1,q0,q2.ext ex⟩
   |dtt ks xs=>obtain⟨vs,q1,q0,q2⟩:=r2;exact⟨vs,by rw [hk b (nF j b z)];exact q1,q0,q2.ext ex⟩
   |_=>exact r2
end
end DL
namespace DL
open PySem PySem.Spec L2
def WantsM(G:Cn)(owN owB owC:List Nat)(i:Nat)(H0:Hp)(av:Addr->Prop)(De:Ends):Out->Prop
 | .nx δ'=>∀A' σ' H',MR G owN i H0 av A' σ' H' δ'->De.nx σ' H'
 | .rt d=>∀v H',Same H0 H'->Rep G.1 av H' d v->De.rt v H'
 | .bk δ'=>∀A' σ' H',MR G owB i H0 av A' σ' H' δ'->De.bk σ' H'
 | .ct δ'=>∀A' σ' H',MR G owC i H0 av A' σ' H' δ'->De.ct σ' H'
def VM(G:Cn)(ow owN owB owC:List Nat)(i:Nat)(ts:TS)(φ:Env->Option Out):Prop:=
 ∀H0 av A σ H δ,MR G ow i H0 av A σ H δ->∀o,φ δ=some o->∀De:Ends,WantsM G owN owB owC i H0 av De o->ts De σ H
section
variable{cA:Kn}{G:Cn}{ow owN owB owC ow1:List Nat}{i:Nat}
theorem ZhH:VM G ow ow owB owC i tNext sNext:=λH0 av A σ H δ R o e De k=>by
 cases e;exact k A σ H R
theorem Q1{t u:TS}{φ ψ:Env->Option Out}(h1:VM G ow ow1 owB owC i t φ)(h2:VM G ow1 owN owB owC i u ψ):VM G ow owN owB owC i (Uu t u) (Zf φ ψ):=λH0 av A σ H δ R o e De k=>by
 unfold Zf at e;cases he:φ δ with
 |none=>rw [he]at e;cases e
 |some o1=>
  rw [he]at e;refine h1 H0 av A σ H δ R o1 he _ ?_;cases o1 with
  |nx δ'=>exact λA' σ' H' R'=>h2 H0 av A' σ' H' δ' R' o e De k
  |rt d=>cases e;exact k
  |bk δ'=>cases e;exact k
  |ct δ'=>cases e;exact k
theorem ZkM{c:TT}{t u:TS}{τ:Env->Option Bool}{φ ψ:Env->Option Out}(hc:VT G ow c τ)(h1:VM G ow owN owB owC i t φ)(h2:VM G ow owN owB owC i u ψ):VM G ow owN owB owC i (Zkd c t u) (sIf τ φ ψ):=λH0 av A σ H δ R o e De k=>by
 unfold sIf at e;cases he:τ δ with
 |none=>rw [he]at e;cases e
 |some b=>
  rw [he]at e;refine hc H0 av A σ H δ R.view b he _ λH' s => ?_
  cases b with
  |true=>exact Vl (h1 H0 av A σ H' δ (R.mono s) o e De k)
  |false=>exact Vk (h2 H0 av A σ H' δ (R.mono s) o e De k)
def VIr(G:Cn)(ow:List Nat)(wi:TI)(ι:Env->Option (List D)):Prop:=
 ∀H0 av A σ H δ,ER G ow H0 av A σ H δ->∀xs,ι δ=some xs->∀R:It->Hp->Prop,(∀J H1,Same H H1->Vv G.1 (λ_=>True) J xs (λ_=>none)->(∀x∈xs,ZE x=true)->R J H1)->wi σ H R
theorem Zew{lo c:Int}{n:Nat}:∀x∈Y3 lo c n,ZE x=true:=λx hx=>by
 obtain⟨k,_,rfl⟩:=List.mem_map.mp hx;rfl
theorem ZfT{ta:TA}{q:Ql}{a:Env->Option (List D)}(h:VA G ow ta q a)(hl:∀δ ds,a δ=some ds->ds.length=1):VIr G ow (ZgX ta) (Z7 a):=λH0 av A σ H δ E xs e R k=>by
 unfold Z7 at e;cases he:a δ with
 |none=>rw [he]at e;cases e
 |some ds=>
  rw [he]at e;refine h H0 av A σ H δ E ds he _ λvs H1 s r => ?_
  have hln:=hl δ ds he
  split at e
  · rename_i j he2
    cases he2
    by_cases hz : -(2 ^ 62)<=j/\j<2 ^ 62
    · rw [if_pos hz]at e
      cases e;exact⟨j,ql1 r,hz.1,hz.2,k _ H1 s ZaF Zew⟩
    · rw [if_neg hz]at e;cases e
  · rename_i he2;cases he2;simp at hln
  · rename_i he2;cases he2;simp at hln
  · cases e
theorem ZfU{ta:TA}{q:Ql}{a:Env->Option (List D)}(h:VA G ow ta q a)(hl:∀δ ds,a δ=some ds->ds.length=2):VIr G ow (Zis ta) (Z7 a):=λH0 av A σ H δ E xs e R k=>by
 unfold Z7 at e;cases he:a δ with
 |none=>rw [he]at e;cases e
 |some ds=>
  rw [he]at e;refine h H0 av A σ H δ E ds he _ λvs H1 s r => ?_
  have hln:=hl δ ds he
  split at e
  · rename_i he2;cases he2;simp at hln
  · rename_i i j he2
    cases he2
    by_cases hz : -(2 ^ 62)<=i/\i<2 ^ 62 /\ -(2 ^ 62)<=j/\j<2 ^ 62
    · rw [if_pos hz]at e
      cases e;exact⟨i,j,ql2 r,hz,k _ H1 s ZaF Zew⟩
    · rw [if_neg hz]at e;cases e
  · rename_i he2;cases he2;simp at hln
  · cases e
theorem ZgF{wi:TI}{tb:TS}{ι:Env->Option (List D)}{φ:Env->Option Out}(k':Nat)(hk:k'≠i)(hko:ow.contains k'=false)(hn:G.2 k'=none)(hi:VIr G ow wi ι)(hb:VM G ow ow ow ow i tb φ):VM G ow ow owB owC i (VW wi (Y8 k') tb) (Yv ι (Zw k') φ):=λH0 av A σ H δ R o e De k=>by
 unfold Yv at e;cases he:ι δ with
 |none=>rw [he]at e;cases e
 |some xs=>
  rw [he]at e;have e:Z0 (Zw k') φ xs δ=some o:=e;refine hi H0 av A σ H δ R.view xs he _ λJ H1 s1 W hsc => ?_
  refine⟨λj m σ' H'=>m=xs.length-j/\j<=xs.length/\∃A' δ',MR G ow i H0 av A' σ' H' δ'/\Z0 (Zw k') φ (xs.drop j) δ'=some o,⟨xs.length,by simp,Nat.zero_le _,A,δ,R.mono s1,e⟩,?_⟩
  rintro j m σ' H' ⟨rfl,hle,A',δ',R',e'⟩
  obtain⟨w1,w2,w3⟩:=W H' (λb o z=>by cases z)
  by_cases hlt:j<xs.length
  · refine .inr ⟨w1 j hlt,λσ2 H2=>∃A2 δ2,MR G ow i H0 av A2 σ2 H2 δ2/\Z0 (Zw k') φ (xs.drop (j+1)) δ2=some o,λσ2 H2 ⟨A2,δ2,E2,e2⟩=>⟨xs.length-(j+1),by omega,rfl,hlt,A2,δ2,E2,e2⟩,λv H2 y => ?_⟩
    have hx:xs[j]? = some xs[j]:=List.getElem?_eq_getElem hlt;obtain⟨s2,rep⟩:=w2 j _ v H2 hx y;have hs:=hsc xs[j] (List.getElem_mem hlt);have ev:v=val xs[j]:=(rep (λ_=>False) (λ_ z=>z.elim) (λ_ z=>z.elim)).val hs;subst ev;rw [List.drop_eq_getElem_cons hlt]at e';unfold Z0 at e'
    have e':(match φ (δ'.set k' (some xs[j]))with
     |none=>none
     |some (.nx δ2)=>Z0 (Zw k') φ (xs.drop (j+1)) δ2
     |some (.ct δ2)=>Z0 (Zw k') φ (xs.drop (j+1)) δ2
     |some (.bk δ2)=>some (.nx δ2)
     |some (.rt d)=>some (.rt d))=some o:=e'
    have R2:=(R'.mono s2).set (owN:=ow) hs hk (λj=>by
     have:k'∉ow:=by simpa using hko
     exact⟨λh=>⟨h,λz=>this (z▸h)⟩,λh=>h.1⟩) hn
    cases hφ:φ (δ'.set k' (some xs[j]))with
    |none=>rw [hφ]at e';cases e'
    |some o1=>
     rw [hφ]at e';refine hb _ av _ _ H2 _ R2 o1 hφ _ ?_;cases o1 with
     |nx δ2=>exact λA4 σ4 H4 E4=>⟨A4,δ2,E4,e'⟩
     |ct δ2=>exact λA4 σ4 H4 E4=>⟨A4,δ2,E4,e'⟩
     |bk δ2=>cases e';exact λA4 σ4 H4 E4=>k A4 σ4 H4 E4
     |rt d=>cases e';exact k
  · have ei:j=xs.length:=by omega
    subst ei;rw [List.drop_length]at e';cases e';exact .inl ⟨w3 _ (Nat.le_refl _),k A' σ' H' R'⟩
theorem ZfV{c:TT}{tb:TS}{τ:Env->Option Bool}{φ:Env->Option Out}(hc:VT G ow c τ)(hb:VM G ow ow ow ow i tb φ):VM G ow ow owB owC i (ZdU c tb) (Xm τ φ):=λH0 av A σ H δ E o e De k=>by
 obtain⟨n,e⟩:=ZaR e;refine⟨λm σ' H'=>∃A' δ',MR G ow i H0 av A' σ' H' δ'/\YU τ φ m δ'=some o,⟨n,A,δ,E,e⟩,?_⟩
 rintro m σ' H' ⟨A',δ',E',e'⟩
 cases m with
 |zero=>cases e'
 |succ m=>
  unfold YU at e';cases ht:τ δ' with
  |none=>rw [ht]at e';cases e'
  |some b=>
   rw [ht]at e';refine hc H0 av A' σ' H' δ' E'.view b ht _ λH2 s2 => ?_
   have E2:=E'.mono s2;cases b with
   |false=>cases e';exact Vk (k A' σ' H2 E2)
   |true=>
    dsimp only at e';refine Vl ⟨λσ3 H3=>∃A3 δ3,MR G ow i H0 av A3 σ3 H3 δ3/\YU τ φ m δ3=some o,λσ3 H3 ⟨A3,δ3,E3,e3⟩=>⟨m,Nat.lt_succ_self _,A3,δ3,E3,e3⟩,?_⟩;cases hφ:φ δ' with
    |none=>rw [hφ]at e';cases e'
    |some o1=>
     rw [hφ]at e';refine hb H0 av A' σ' H2 δ' E2 o1 hφ _ ?_;cases o1 with
     |nx δ2=>exact λA4 σ4 H4 E4=>⟨A4,δ2,E4,e'⟩
     |ct δ2=>exact λA4 σ4 H4 E4=>⟨A4,δ2,E4,e'⟩
     |bk δ2=>cases e';exact k
     |rt d=>cases e';exact k
def Xs(i:Nat)(φ:Env->Option Out)(δ:Env):Option Out:=match φ (δ.set i none)with
 |some (.nx δ')=>match δ'[i]? with
  |some none=>some (.nx (δ'.set i ((δ[i]?).getD none)))
  |_=>none
 |some (.rt d)=>some (.rt d)
 |_=>none
theorem Zca{t:TS}{φ:Env->Option Out}(h:∀v,VS (G.keep i v) ow owN [] [] t φ)(ho:owN.contains i=false):VM G ow owN owB owC i t (Xs i φ):=λH0 av A σ H δ R o e De k=>by
 obtain⟨a,bs,rows,hd,M,h0,E⟩:=R.ex;unfold Xs at e;cases hp:φ (δ.set i none)with
 |none=>rw [hp]at e;cases e
 |some o1=>
  rw [hp]at e;refine h (.ref a) _ _ A σ H _ E o1 hp De ?_;cases o1 with
  |nx δ1=>
   dsimp only at e;intro A' σ' H' E';have hs:Same (ovl H0 H (a::bs)) H':=E'.same
   have hF:∀x∈a::bs,H' x=H x:=λx hx=>by
    obtain⟨vs,q⟩:=M.there hx;rw [q];exact hs x _ (by rw [XI hx];exact q)
   cases hi:δ1[i]? with
   |none=>rw [hi]at e;cases e
   |some z=>
    rw [hi]at e;cases z with
    |some y=>cases e
    |none=>
     dsimp only at e;rw [hd]at e;have e:some (Out.nx (δ1.set i (some (mat rows))))=some o:=e;cases e;have hil:i<δ1.length:=(List.getElem?_eq_some_iff.mp hi).1;have M':Mx H' a bs rows:=⟨(hF a List.mem_cons_self).trans M.top,M.len,M.nd,M.na,λk b r h1 h2=>(hF b (List.mem_cons_of_mem _ (List.mem_of_getElem? h1))).trans (M.row k b r h1 h2),M.sc⟩
     have eo:ovl H0 H' (a::bs)=ovl H0 H (a::bs):=by
      funext x
      by_cases hx:x∈a::bs
      · rw [XI hx,XI hx,hF x hx]
      · rw [Xf hx,Xf hx]
     have es:(δ1.set i (some (mat rows))).set i none=δ1:=by
      rw [List.set_set];apply List.ext_getElem?;intro j
      by_cases hj:j=i
      · subst hj
        rw [List.getElem?_set_self hil,hi]
      · rw [List.getElem?_set_ne (Ne.symm hj)]
     exact k A' σ' H' ⟨by simpa using ho,(λz e=>by
      obtain⟨v,h1,h2⟩:=R.nn z e;have h3:=E.kept i _ Qr;rw [h2]at h3;cases h3;exact⟨_,h1,E'.kept i _ Qr⟩),R.avd,a,bs,rows,List.getElem?_set_self hil,M',h0,by rw [eo,es];exact E'⟩
  |rt d=>
   cases e;intro v H' s r;refine k v H' (λb o q=>s b o ?_) (r.av λb z => .inl (.inl z));have nb:b∉a::bs:=λz=>by rw [h0 b z]at q;cases q
   rw [Xf nb];exact q
  |bk δ1=>cases e
  |ct δ1=>cases e
end
end DL
namespace DL
open PySem PySem.Spec L2
theorem ZhI{α:Type}{xs:List α}{n:Int}{j:Nat}{x:α}(h:ixN xs.length n=some j)(hx:xs[j]? = some x):atI xs n=some x:=by
 unfold atI;rw [h];exact hx
section
variable{H:Hp}{a b:Addr}{bs:List Addr}{rows:List (List D)}{j:Nat}{r r':List D}
theorem Mx.put(M:Mx H a bs rows)(hb:bs[j]? = some b)(hr:rows[j]? = some r)(hs:r'.all ZE=true):Mx (upd H b (.lst (r'.map val))) a bs (rows.set j r'):=by
 have hbm:b∈bs:=List.mem_of_getElem? hb;have hab:a≠b:=λz=>M.na (z▸hbm)
 have hjl:j<rows.length:=(List.getElem?_eq_some_iff.mp hr).1;refine⟨by rw [Zz hab];exact M.top,by rw [List.length_set];exact M.len,M.nd,M.na,λk b' r1 h1 h2 => ?_,λr1 h1 => ?_⟩
 · by_cases hk:k=j
   · subst hk
     rw [hb]at h1;cases h1;rw [List.getElem?_set_self hjl]at h2;cases h2;exact ZO
   · rw [List.getElem?_set_ne (Ne.symm hk)]at h2
     have:b'≠b:=λz=>hk (by
      subst z;obtain⟨p1,k1⟩:=(List.getElem?_eq_some_iff.mp h1)
      obtain⟨p2,k2⟩:=(List.getElem?_eq_some_iff.mp hb)
      rcases Nat.lt_trichotomy k j with h|h|h
      · exact absurd (k1.trans k2.symm) (List.pairwise_iff_getElem.mp M.nd k j p1 p2 h)
      · exact h
      · exact absurd (k2.trans k1.symm) (List.pairwise_iff_getElem.mp M.nd j k p2 p1 h))
     rw [Zz this];exact M.row k b' r1 h1 h2
 · rcases List.mem_or_eq_of_mem_set h1 with h1|rfl
   · exact M.sc r1 h1
   · exact hs
theorem Zcx:(rows.map D.lst).set j (.lst r')=(rows.set j r').map D.lst:=by rw [List.map_set]
theorem ZhJ{d:D}(h:(rows.map D.lst)[j]? = some d):∃r,rows[j]? = some r/\d = .lst r:=by
 rw [List.getElem?_map]at h;cases hr:rows[j]? with
 |none=>rw [hr]at h;cases h
 |some r=>rw [hr]at h;cases h;exact⟨r,rfl,rfl⟩
theorem Mx.at(M:Mx H a bs rows)(hr:rows[j]? = some r):∃b,bs[j]? = some b/\H b=some (.lst (r.map val)):=by
 have hjl:j<bs.length:=by rw [M.len];exact(List.getElem?_eq_some_iff.mp hr).1
 exact⟨bs[j],List.getElem?_eq_getElem hjl,M.row j _ r (List.getElem?_eq_getElem hjl) hr⟩
end
section
variable{cA:Kn}{G:Cn}{ow owN owB owC ow1:List Nat}{i:Nat}
theorem scal_of{ε:Env->Option D}{δ:Env}{d:D}(h:Vn ε δ=some d):ZE d=true:=by
 unfold Vn at h;cases hx:ε δ with
 |none=>rw [hx]at h;cases h
 |some d'=>
  rw [hx]at h
  by_cases hs:ZE d'=true
  · have e':d'=d:=by simpa [hs]using h
    rw [<-e'];exact hs
  · simp [hs]at h
def Vx(i:Nat)(κ1 ε:Env->Option D)(δ:Env):Option Out:=match Za i δ,κ1 δ,Vn ε δ with
 |some (.lst xs),some (.int n),some d=>match ixN xs.length n with
  |some j=>match xs[j]? with
   |some (.lst r)=>if r.length<sizeLine then some (.nx (δ.set i (some (.lst (xs.set j (.lst (r++[d])))))))else none
   |_=>none
  |none=>none
 |_,_,_=>none
theorem ZdE{κ1 ε:Env->Option D}{δ:Env}{o:Out}(h:Vx i κ1 ε δ=some o):∃d xs n j r,Vn ε δ=some d/\Za i δ=some (.lst xs)/\κ1 δ=some (.int n)/\ixN xs.length n=some j/\xs[j]? = some (.lst r)/\r.length<sizeLine/\o = .nx (δ.set i (some (.lst (xs.set j (.lst (r++[d])))))):=by
 unfold Vx at h
 split at h
 · rename_i xs n d h1 h2 h3
   split at h
   · rename_i j hj
     split at h
     · rename_i r hr
       by_cases hz:r.length<sizeLine
       · rw [if_pos hz]at h
         exact⟨d,xs,n,j,r,h3,h1,h2,hj,hr,hz,(Option.some.inj h).symm⟩
       · rw [if_neg hz]at h;cases h
     · cases h
   · cases h
 · cases h
theorem Zex{te t1:TE}{q q1:Ql}{ε κ1:Env->Option D}(h1:VE G ow t1 q1 κ1)(h:VE G ow te q ε):VM G ow ow owB owC i (Uv (tBM G.1.K "list" rAppend (tOp (UT G.1.K) (YR i) t1) (Xp te tNil))) (Vx i κ1 ε):=λH0 av A σ H δ R o e De k=>by
 obtain⟨d,xs,n,j,r,e1,e2,e3,e5,e6,e7,rfl⟩:=ZdE e;obtain⟨a,bs,rows,hd,M,h0,E⟩:=R.ex
 have ex:xs=rows.map D.lst:=by
  have:=Xj e2;rw [hd]at this;cases this;rfl
 subst ex;obtain⟨r0,hr,er⟩:=ZhJ e6;cases er;obtain⟨b,hb,hH⟩:=M.at hr;refine⟨.ref a,E.kept i _ Qr,h1 H0 av A σ H δ R.view _ e3 _ λy H2 s2 r2 => ?_⟩;have ey:y = .int n:=r2.any;subst ey;refine .inl ⟨a,bs.map V.ref,n,.ref b,rfl,rfl,SqL.of (s2 _ _ M.top),ZhI (j:=j) (by rw [List.length_map]at e5 ⊢;rw [M.len];exact e5) (by rw [List.getElem?_map,hb];rfl),.inl ⟨rfl,_,SqL.of (s2 _ _ hH)⟩,?_⟩
 have R2:=R.mono s2;refine h.scal H0 av A σ H2 δ R2.view d e1 _ λv H3 s3 r3 => ?_
 have hs:=scal_of e1;have ev:v=val d:=(RepT.r r3).val hs;subst ev;have s23:=s2.trans s3;have M3:=M.mono s23;refine⟨b,r.map val,val d,rfl,rfl,s23 _ _ hH,by rw [List.length_map];exact e7,k A σ _ ?_⟩;rw [Zcx];have em:r.map val++[val d]=(r++[d]).map val:=by rw [List.map_append];rfl
 rw [em]
 have hrs:(r++[d]).all ZE=true:=by
  rw [List.all_append,M.sc r (List.mem_of_getElem? hr)];simp [hs]
 exact MR.turn R.ni R.nn R.avd hd M3 h0 (by rw [Zbf M s23];exact E.mono s23) (M3.put hb hr hrs) λx hx=>Zz λz=>hx (z▸List.mem_cons_of_mem _ (List.mem_of_getElem? hb))
end
end DL
namespace DL
open PySem PySem.Spec L2
def VFM(G:Cn)(ow:List Nat)(te:TE)(ε:Env->Option D):Prop:=
 ∀H0 av A σ H δ,ER G ow H0 av A σ H δ->∀d,ε δ=some d->∀Q:VK,(∀a bs rows H',Same H H'->(∀x∈a::bs,H x=none)->Mx H' a bs rows->d=mat rows->Q (.ref a) H')->te σ H Q
def Qs(i:Nat)(ε:Env->Option D)(δ:Env):Option Out:=match ε δ with
 |some d=>if i<δ.length then some (.nx (δ.set i (some d)))else none
 |none=>none
section
variable{cA:Kn}{G:Cn}{ow owN owB owC ow1:List Nat}{i:Nat}
theorem ZfW{H0 H H':Hp}{av:Addr->Prop}{A:Nat->Option Addr}{σ:L2.St}{δ:Env}{a:Addr}{bs:List Addr}{rows:List (List D)}(E:ER G ow H0 av A σ H δ)(hi:i∉ow)(hn:G.2 i=none)(hil:i<δ.length)(s:Same H H')(hf:∀x∈a::bs,H x=none)(M:Mx H' a bs rows) :
 MR G ow i H0 av A (σ.set i (some (.ref a))) H' (δ.set i (some (mat rows))):=by
 have h0:∀x∈a::bs,H0 x=none:=λx hx=>E.same.free (hf x hx)
 have nF:∀j x,A j=some x->x∉a::bs:=λj x e z=>E.live j x e (hf x z)
 have E':=E.mono s;refine⟨hi,.none hn,E.avd,a,bs,rows,List.getElem?_set_self hil,M,h0,?_⟩;rw [List.set_set];refine⟨λb o e => ?_,λx z => ?_,λj x e => ?_,E.inj,E'.live,E.dom,E.dom',by rw [List.length_set,List.length_set];exact E.len,λj x e => ?_,λj v e => ?_,λj d e => ?_⟩
 · by_cases hx:b∈a::bs
   · rw [XI hx]at e;exact e
   · rw [Xf hx]at e;exact E'.same b o e
 · by_cases hx:x∈a::bs
   · rw [XI hx]
     obtain⟨vs,q⟩:=M.there hx;rw [q];exact λz=>by cases z
   · rw [Xf hx]
     exact E.avd x (z.resolve_right hx)
 · rw [Xf (nF j x e)]
   exact E.fr j x e
 · have q:j≠i:=λz=>by rw [z,Qr]at e;cases e
   exact E.pin j x (by rw [Qq q]at e;exact e)
 · by_cases q:j=i
   · subst q
     rw [Qr]at e;cases e;exact List.getElem?_set_self (by rw [E.len];exact hil)
   · rw [Qq q]at e
     rw [List.getElem?_set_ne (Ne.symm q)];exact E.kept j v e
 · have q : j ≠ i := fun z => by
    rw [z,List.getElem?_set_self hil]at e;cases e
   rw [List.getElem?_set_ne (Ne.symm q)]at e;obtain⟨v,h1,h2,h3⟩:=E.var j d e
   have more:∀b,AV (avF av (a::bs)) A b->AV av A b\/H b=none:=λb z=>by
    rcases z with(z|z)|z
    · exact .inl (.inl z)
    · exact .inr (hf b z)
    · exact .inl (.inr z)
   refine⟨v,by rw [List.getElem?_set_ne (Ne.symm q)];exact h1,λz=>((h2 z).av more).same s,λb z => ?_⟩;obtain⟨r1,r2⟩:=h3 b z;refine⟨r1,?_⟩;cases d with
   |lst xs=>obtain⟨vs,q1,q2⟩:=r2;exact⟨vs,s _ _ q1,(q2.av more).same s⟩
   |obj c ks xs=>obtain⟨dx,vs,q1,q0,q2⟩:=r2;exact⟨dx,vs,s _ _ q1,q0,(q2.av more).same s⟩
   |dct ks xs=>obtain⟨vs,q1,q0,q2⟩:=r2;exact⟨vs,s _ _ q1,q0,(q2.av more).same s⟩
   |dtt ks xs=>obtain⟨vs,q1,q0,q2⟩:=r2;exact⟨vs,s _ _ q1,q0,(q2.av more).same s⟩
   |_=>exact r2
theorem WantsM.of{H0:Hp}{av:Addr->Prop}{De:Ends}{o:Out}(k:ZiH G owN owB owC H0 av De o):WantsM G owN owB owC i H0 av De o:=by
 cases o with
 |nx δ'=>exact λA' σ' H' R=>k A' σ' H' R.view
 |rt d=>exact k
 |bk δ'=>exact λA' σ' H' R=>k A' σ' H' R.view
 |ct δ'=>exact λA' σ' H' R=>k A' σ' H' R.view
theorem Zjw{te:TE}{u:TS}{ε:Env->Option D}{ψ:Env->Option Out}(i:Nat)(hi:ow.contains i=false)(hn:G.2 i=none)(h1:VFM G ow te ε)(h2:VM G ow owN owB owC i u ψ):VS G ow owN owB owC (Uu (X3 te (Y8 i)) u) (Zf (Qs i ε) ψ):=λH0 av A σ H δ E o e De k=>by
 unfold Zf Qs at e;cases he:ε δ with
 |none=>rw [he]at e;cases e
 |some d=>
  rw [he]at e;dsimp only at e
  by_cases hil:i<δ.length
  · rw [if_pos hil]at e
    dsimp only at e;refine h1 H0 av A σ H δ E d he _ λa bs rows H' s hf M hd => ?_
    subst hd;exact h2 H0 av A _ H' _ (ZfW E (by simpa using hi) hn hil s hf M) o e De (WantsM.of k)
  · rw [if_neg hil]at e;cases e
theorem VFM.cl{te:TE}{ε:Env->Option D}(h:VFM G ow te ε):VE G ow te .cl ε:=λH0 av A σ H δ E d e Q k=>
 h H0 av A σ H δ E d e Q λa bs rows H' s hf M hd=>by
  subst hd;exact k _ H' s (M.rep λx hx z=>E.avl x z (hf x hx)).t
def JI:D->D->Option D
 | .lst a,.int n=>mulX (.lst a) (.int n)
 |_,_=>none
theorem Zjx{ta tb:TE}{q:Ql}{a b:Env->Option D}(ha:VE G ow ta .cl a)(hb:VE G ow tb q b):VF G ow (tOp (JG G.1.K) ta tb) (eOp JI a b):=λH0 av A σ H δ E d e Q k=>by
 obtain⟨x,y,ex,ey,ed⟩:=Qj e;unfold JI at ed
 split at ed
 · rename_i xs n
   unfold mulX at ed;dsimp only at ed
   by_cases hz:n<2 ^ 63 /\ -(2 ^ 63)<=n/\xs.length*n.toNat<=sizeLine
   · rw [if_pos hz]at ed
     cases ed;refine ha H0 av A σ H δ E _ ex _ λv H1 s1 r1=>hb H0 av A σ H1 δ (E.mono s1) _ ey _ λw H2 s2 r2 => ?_
     have ew:w = .int n:=r2.any;subst ew;obtain⟨a1,vs1,rfl,na,rd,l1⟩:=r1;refine .inr (.inr ⟨a1,n,vs1,rfl,rfl,s2.seq rd,hz.2.1,hz.1,by rw [<-l1.length];exact hz.2.2,λp hp=>k p _ _ H2 (s1.trans s2) hp ((l1.same s2).rep n.toNat) rfl⟩)
   · rw [if_neg hz]at ed;cases ed
 · cases ed
end
section
variable{P:Program}{w:World}{K:PySem.W.Frag}{mg:Str->Option Value}{base:Heap}{cA:Kn}
end
end DL
namespace DL
open PySem PySem.Spec L2
def UH:List D->Option (List (List D))
 | []=>some []
 | .lst r::xs=>if r.all ZE=true then(match UH xs with
  |some rs=>some (r::rs)
  |none=>none)else none
 |_::_=>none
theorem ZaT:∀{xs:List D}{rs:List (List D)},UH xs=some rs->xs=rs.map D.lst/\∀r∈rs,r.all ZE=true
 | [],rs,h=>by
  cases h;exact⟨rfl,λr z=>by cases z⟩
 |x::xs,rs,h=>by
  unfold UH at h
  split at h
  · cases ‹_::_=[]›
  · rename_i r ys he
    cases he
    by_cases hr:r.all ZE=true
    · rw [if_pos hr]at h
      cases hq:UH xs with
      |none=>rw [hq]at h;cases h
      |some rs'=>
       rw [hq]at h;cases h;obtain⟨h1,h2⟩:=ZaT hq;refine⟨by rw [List.map_cons,<-h1],λr' hr' => ?_⟩;rcases List.mem_cons.mp hr' with rfl|z
       · exact hr
       · exact h2 r' z
    · rw [if_neg hr]at h;cases h
  · cases h
def Qt(ε:Env->Option D)(δ:Env):Option D:=match ε δ with
 |some (.lst xs)=>match UH xs with
  |some _=>some (.lst xs)
  |none=>none
 |_=>none
section
variable{cA:Kn}{G:Cn}{ow:List Nat}
structure RowsAt(H0 H:Hp)(bs:List Addr)(rows:List (List D)):Prop where
 len:bs.length=rows.length
 nd:bs.Nodup
 row:∀(k:Nat)(b:Addr)(r:List D),bs[k]? = some b->rows[k]? = some r->H b=some (.lst (r.map val))
 fr:∀b∈bs,H0 b=none
 sc:∀r∈rows,r.all ZE=true
theorem RowsAt.snoc{H0 H H':Hp}{bs:List Addr}{rows:List (List D)}{p:Addr}{r:List D}(R:RowsAt H0 H bs rows)(s0:Same H0 H)(s:Same H H')(hp:H' p=none)(hs:r.all ZE=true):RowsAt H0 (upd H' p (.lst (r.map val))) (bs++[p]) (rows++[r]):=by
 have there:∀b∈bs,H b≠none:=λb hb=>by
  obtain⟨k,hk,e⟩:=List.mem_iff_getElem.mp hb;have hk2:k<rows.length:=by rw [<-R.len];exact hk
  rw [R.row k b _ (by rw [List.getElem?_eq_getElem hk,e]) (List.getElem?_eq_getElem hk2)];exact λz=>by cases z
 have np:∀b∈bs,b≠p:=λb hb z=>there b hb (by rw [z];exact s.free hp)
 refine⟨by rw [List.length_append,List.length_append,R.len];rfl,?_,λn b' r' g1 g2 => ?_,λb hb => ?_,λr' hr' => ?_⟩
 · rw [List.nodup_append]
   refine⟨R.nd,by simp,λx hx y hy => ?_⟩;rw [List.mem_singleton.mp hy];exact np x hx
 · by_cases hn':n<bs.length
   · rw [List.getElem?_append_left hn']at g1
     rw [List.getElem?_append_left (by rw [<-R.len];exact hn')]at g2;rw [Zz (np b' (List.mem_of_getElem? g1))];exact s _ _ (R.row n b' r' g1 g2)
   · rw [List.getElem?_append_right (by omega)]at g1
     rw [List.getElem?_append_right (by rw [<-R.len];omega),<-R.len]at g2
     have hnn:n-bs.length=0:=by
      by_cases z:n-bs.length=0
      · exact z
      · rw [List.getElem?_eq_none (by simp;omega)]at g1;cases g1
     rw [hnn]at g1 g2;cases g1;cases g2;exact ZO
 · rcases List.mem_append.mp hb with z|z
   · exact R.fr b z
   · rw [List.mem_singleton.mp z]
     exact s0.free (s.free hp)
 · rcases List.mem_append.mp hr' with z|z
   · exact R.sc r' z
   · rw [List.mem_singleton.mp z];exact hs
theorem RowsAt.same{H0 H H':Hp}{bs:List Addr}{rows:List (List D)}(R:RowsAt H0 H bs rows)(s:Same H H'):RowsAt H0 H' bs rows:=⟨R.len,R.nd,λk b r h1 h2=>s _ _ (R.row k b r h1 h2),R.fr,R.sc⟩
theorem ZfX {wi:TI} {g:TG} {te:TE} {n:Nat} {js:List Nat} {ι:Env->Option (List D)} {γ:D->Env->Option Env} {ε:Env->Option D} {tt:TT} {τ:Env->Option Bool}
 (hjs:js.all (λj => !ow.contains j)=true) (hi:VI G ow wi ι) (hg:VG ⟨G.1,λ_=>none⟩ [] [] g γ) (ht:VT ⟨G.1,λ_=>none⟩ [] tt τ) (he:VF ⟨G.1,λ_=>none⟩ [] te ε):VFM G ow (QP wi g tt te n js) (Qt (ZF ι γ τ ε n js)):=λH0 av A σ H δ E d e Q k=>by
 unfold Qt at e
 split at e
 · rename_i full hfull
   split at e
   · rename_i rs hrs
     have ed:D.lst full=d:=Option.some.inj e;obtain⟨hfe,hfs⟩:=ZaT hrs;unfold ZF at hfull;cases hι:ι δ with
     |none=>rw [hι]at hfull;cases hfull
     |some xs=>
      rw [hι]at hfull;dsimp only at hfull;cases hc:YB γ τ ε (YO n δ js) xs with
      |none=>rw [hc]at hfull;cases hfull
      |some full'=>
       rw [hc]at hfull;dsimp only at hfull
       by_cases hz:full'.length<=sizeLine
       · rw [if_pos hz]at hfull
         have hff:full'=full:=by cases hfull;rfl
         subst hff;refine hi H0 av A σ H δ E xs hι _ λJ H1 s1 W => ?_
         have E1:=E.mono s1
         refine⟨λi m ys H'=>m=xs.length-i/\i<=xs.length/\Same H1 H'/\∃bs done rest,ys=bs.map V.ref/\RowsAt H1 H' bs done/\YB γ τ ε (YO n δ js) (xs.drop i)=some rest/\done.map D.lst++rest=full',
          ⟨xs.length,by simp,Nat.zero_le _,Same.refl _,[],[],full',rfl,⟨rfl,List.nodup_nil,(λk b r h1 h2=>by simp at h1),(λb z=>by cases z),(λr z=>by cases z)⟩,hc,rfl⟩,?_⟩
         rintro i m ys H' ⟨rfl,hle,s',bs,done,rest,rfl,RA,hr,hf⟩
         have E':=E1.mono s';have sc:Same (DL.cut A H1) H':=λb o z=>s' b o (JA z).1
         obtain⟨w1,w2,w3⟩:=W H' sc
         by_cases hlt:i<xs.length
         · refine .inr ⟨w1 i hlt,λv H2 y => ?_⟩
           have hx:xs[i]? = some xs[i]:=List.getElem?_eq_getElem hlt;obtain⟨s2,rep⟩:=w2 i _ v H2 hx y;have rep':Rep G.1 (AV av A) H2 xs[i] v:=rep _ E'.avl λb z => .inl z
           have E2:=E'.mono s2;have EB:ER ⟨G.1,λ_=>none⟩ [] H2 (AV av A) (λ_=>none) (L2.blk n σ js) H2 (YO n δ js):=E2.blk n js hjs
           have triv:∀(A':Nat->Option Addr){σ':L2.St}{H3:Hp}{δ':Env},ER ⟨G.1,λ_=>none⟩ [] H2 (AV av A) A' σ' H3 δ'->∀b,AV (AV av A) A' b ↔ AV av A b:=λA' {σ' H3 δ'} E3 b=>by
            constructor
            · rintro(z|⟨j,z⟩)
              · exact z
              · have:=E3.dom j (by rw [z];exact λz=>by cases z)
                cases this
            · exact λz => .inl z
           rw [List.drop_eq_getElem_cons hlt]at hr;unfold YB at hr;cases hγ:γ xs[i] (YO n δ js)with
           |none=>rw [hγ]at hr;cases hr
           |some δ1=>
            rw [hγ]at hr;dsimp only at hr;refine hg _ _ _ _ H2 _ EB _ v (rep'.av λb z => .inl ((triv _ EB b).mp z)) δ1 hγ _ λA3 σ3 H3 s3 E3 => ?_
            cases hτ:τ δ1 with
            |none=>rw [hτ]at hr;cases hr
            |some c=>
             rw [hτ]at hr;refine ht _ _ A3 σ3 H3 δ1 E3 c hτ _ λH4 s4 => ?_
             have E4:=E3.mono s4;cases c with
             |false=>
              exact Vk ⟨xs.length-(i+1),by omega,rfl,hlt,(s'.trans s2).trans (s3.trans s4),bs,done,rest,rfl,RA.same ((s2.trans s3).trans s4),hr,hf⟩
             |true=>
              dsimp only at hr;cases hε:ε δ1 with
              |none=>rw [hε]at hr;cases hr
              |some yd=>
               rw [hε]at hr;dsimp only at hr;cases hr':YB γ τ ε (YO n δ js) (xs.drop (i+1))with
               |none=>rw [hr']at hr;cases hr
               |some rest'=>
                rw [hr']at hr;have hrr:yd::rest'=rest:=Option.some.inj hr;subst hrr;refine Vl (he _ _ A3 σ3 H4 δ1 E4 yd hε _ λp vs zs H5 s5 hp l hyd => ?_);subst hyd
                have hzs:zs.all ZE=true:=by
                 have hm:D.lst zs∈full':=by rw [<-hf];simp
                 rw [hfe]at hm;obtain⟨r,hr1,hr2⟩:=List.mem_map.mp hm;cases hr2;exact hfs _ hr1
                have ev:vs=zs.map val:=l.vals hzs;subst ev;have sall:Same H' H5:=((s2.trans s3).trans s4).trans s5;refine⟨?_,xs.length-(i+1),by omega,rfl,hlt,(s'.trans sall).trans (ZW hp),bs++[p],done++[zs],rest',by rw [List.map_append];rfl,RA.snoc s' sall hp hzs,hr',by rw [<-hf,List.map_append,List.append_assoc];rfl⟩;have:=congrArg List.length hf;rw [List.length_append,List.length_cons,List.length_map]at this
                have:=RA.len;rw [List.length_map];omega
         · have ei:i=xs.length:=by omega
           subst ei;rw [List.drop_length]at hr;cases hr;rw [List.append_nil]at hf;refine .inl ⟨w3 _ (Nat.le_refl _),λp hp=>k p bs done _ ((s1.trans s').trans (ZW hp)) (λx hx => ?_) ⟨ZO,RA.len,RA.nd,?_,λk b r h1 h2 => ?_,RA.sc⟩ (by rw [<-ed,<-hf];rfl)⟩
           · rcases List.mem_cons.mp hx with rfl|z
             · exact s1.free (s'.free hp)
             · exact s1.free (RA.fr x z)
           · intro z
             obtain⟨j,hj,ej⟩:=List.mem_iff_getElem.mp z;have hj2:j<done.length:=by rw [<-RA.len];exact hj
             have:=RA.row j p _ (by rw [List.getElem?_eq_getElem hj,ej]) (List.getElem?_eq_getElem hj2);rw [hp]at this;cases this
           · have hb:=RA.row k b r h1 h2
             have:b≠p:=λz=>by rw [z,hp]at hb;cases hb
             rw [Zz this];exact hb
       · rw [if_neg hz]at hfull;cases hfull
   · cases e
 · cases e
end
end DL
namespace DL
open PySem PySem.Spec L2
section
variable{cA:Kn}{G:Cn}{ow owN owB owC ow1:List Nat}{i:Nat}
open Classical in
end
section
variable{P:Program}{w:World}{K:PySem.W.Frag}{mg:Str->Option Value}{base:Heap}{cA:Kn}
end
end DL
namespace L2
open PySem PySem.Spec PySem.W PyProof.Rows
theorem Zg5 {X:Cx} {K:PySem.W.Frag} {o:Expr} {to:TE} {name:Str} {apos cpos:Pos} {T id:String} {r:V->List V->Hp->VK->Prop} (pa:PlainAttrs T) (slot:Slot T name id) (hty:typeOf (.builtin id)=pure (.type "method_descriptor")) (hm:MtR X id r) (ho:PE X o to)
 (hbase:attributeBase o name X.env (eval o X.env)=eval o X.env:=by rfl) (hline:(apos.endLine == cpos.line)=true:=by rfl) (hK:X.K=K:=by rfl):PE X (.Call (.Attribute o name apos) [] [] cpos) (Ux K T r to):=hK▸Zjl pa slot hty hm ho hbase hline
end L2
namespace DL
open PySem PySem.Spec L2
section
variable{cA:Kn}{G:Cn}{ow owN owB owC ow1:List Nat}{i:Nat}
theorem MR.own{H0 H:Hp}{av:Addr->Prop}{A:Nat->Option Addr}{σ:L2.St}{δ:Env}{k:Nat}{xs:List D}{p:Addr}(R:MR G ow i H0 av A σ H δ)(hs:xs.all ZE=true)(hp:H p=none)(hk:k≠i)(hw:∀j,j∈ow1 ↔ j∈ow\/j=k)(hn:G.2 k=none):MR G ow1 i H0 av (λj=>if j=k then some p else A j) (σ.set k (some (.ref p))) (upd H p (.lst (xs.map val))) (δ.set k (some (.lst xs))):=by
 obtain⟨a,bs,rows,hd,M,h0,E⟩:=R.ex;refine⟨λz=>((hw i).mp z).elim R.ni λz=>hk z.symm,R.nn.set hk,R.avd,a,bs,rows,by rw [List.getElem?_set_ne hk];exact hd,M.mono (ZW hp),h0,?_⟩;rw [List.set_comm _ _ hk,Zbf M (ZW hp)];exact E.own hp (.of_vals hs) hw (by rw [Qq hk];exact hn)
end
end DL
namespace DL
open PySem PySem.Spec L2
def XX:D->Option Key
 | .int i=>some (.inl i)
 | .str cs=>some (.inr (tx cs))
 |_=>none
theorem Q2{d:D}{k:Key}(h:XX d=some k):val d=kV k/\ZE d=true:=by
 cases d<;>first|(cases h;done)|(cases h;exact⟨rfl,rfl⟩)
def UI{α:Type}(k:Key):List Key->List α->Option α
 |k0::ks,x::xs=>if k0=k then some x else UI k ks xs
 |_,_=>none
def XY{α:Type}(k:Key)(d:α):List Key->List α->List α
 |k0::ks,x::xs=>(if k0=k then d else x)::XY k d ks xs
 |_,xs=>xs
def Xu(k:Key):List Key->Bool
 | []=>false
 |k0::ks=>decide (k0=k)||Xu k ks
def Vy(ks:List Key)(xs:List D)(k:Key)(d:D):D:=if Xu k ks=true then .dct ks (XY k d ks xs)else .dct (ks++[k]) (xs++[d])
theorem Zc0{α:Type}(k:Key)(d:α):∀(ks:List Key)(xs:List α),(XY k d ks xs).length=xs.length
 | [],_=>rfl
 |_::_,[]=>rfl
 |k0::ks,x::xs=>by rw [XY,List.length_cons,List.length_cons,Zc0 k d ks xs]
theorem Zcb(k:Key):∀(ks:List Key)(vs:List V),ks.length=vs.length->((ks.zip vs).any λkv=>decide (kv.1=k))=Xu k ks
 | [],_,_=>rfl
 |k0::ks,[],h=>by simp at h
 |k0::ks,v::vs,h=>by
  rw [List.zip_cons_cons,List.any_cons,Zcb k ks vs (by simpa using h)];rfl
theorem Zc1(k:Key){ks:List Key}{vs:List V}(h:ks.length=vs.length):(Xr (ks.zip vs) k).isSome=Xu k ks:=by rw [<-Zbb,Zcb k ks vs h]
theorem Zey(k:Key)(v:V):∀(ks:List Key)(vs:List V),ks.length=vs.length->(ks.zip vs).map (λkv=>if kv.1=k then(kv.1,v)else kv)=ks.zip (XY k v ks vs)
 | [],_,_=>by simp
 |k0::ks,[],h=>by simp at h
 |k0::ks,x::vs,h=>by
  rw [List.zip_cons_cons,List.map_cons,XY,List.zip_cons_cons,Zey k v ks vs (by simpa using h)]
  by_cases e:k0=k
  · simp [e]
  · simp [e]
section
variable{cA:Kn}{av:Addr->Prop}{H:Hp}
theorem Zc2(k:Key):∀{ks:List Key}{xs:List D}{vs:List V}{x:D},RepL cA av H xs vs->UI k ks xs=some x->∃v,Xr (ks.zip vs) k=some v/\Rep cA av H x v
 | [],xs,vs,x,_,h=>by cases h
 |k0::ks,[],vs,x,_,h=>by cases h
 |k0::ks,y::xs,vs,x,l,h=>by
  obtain⟨v,r,rfl,h1,h2⟩:=l.uncons;rw [List.zip_cons_cons];unfold UI at h
  by_cases e:k0=k
  · rw [if_pos e]at h
    cases h;exact⟨v,Js e,h1⟩
  · rw [if_neg e]at h
    obtain⟨u,h3,h4⟩:=Zc2 k h2 h;exact⟨u,(Jt e).trans h3,h4⟩
theorem Zc3(k:Key){d:D}{v:V}(hd:Rep cA av H d v):∀(ks:List Key){xs:List D}{vs:List V},RepL cA av H xs vs->RepL cA av H (XY k d ks xs) (XY k v ks vs)
 | [],xs,vs,l=>l
 |k0::ks,[],vs,l=>by rw [l.nil_of];exact .nil
 |k0::ks,y::xs,vs,l=>by
  obtain⟨u,r,rfl,h1,h2⟩:=l.uncons;rw [XY,XY];refine .cons ?_ (Zc3 k hd ks h2)
  by_cases e:k0=k
  · rw [if_pos e,if_pos e];exact hd
  · rw [if_neg e,if_neg e];exact h1
theorem ZhK(k:Key){d:D}{v:V}{ks:List Key}{xs:List D}{vs:List V}{a:Addr}{H':Hp}(hks:ks.length=xs.length)(l:RepL cA av H' xs vs)(hd:Rep cA av H' d v)(e:H' a=some (.dK (YY (ks.zip vs) k v))):Own cA av H' (Vy ks xs k d) a:=by
 have hl:ks.length=vs.length:=by rw [hks,l.length]
 unfold YY at e;rw [Zcb k ks vs hl]at e;unfold Vy
 by_cases h:Xu k ks=true
 · rw [if_pos h,Zey k v ks vs hl]at e
   rw [if_pos h];exact⟨_,e,by rw [Zc0];exact hks,Zc3 k hd ks l⟩
 · rw [if_neg h]at e
   rw [if_neg h];refine⟨vs++[v],?_,by rw [List.length_append,List.length_append,hks];rfl,l.append (.cons hd .nil)⟩;rw [e,List.zip_append hl];rfl
end
section
variable{G:Cn}{ow owN owB owC ow1:List Nat}{H0 H:Hp}{av:Addr->Prop}{A:Nat->Option Addr}{σ:L2.St}{δ:Env}
theorem ZhL{i:Nat}{ks:List Key}{xs:List D}{vs:List V}{p:Addr}(E:ER G ow H0 av A σ H δ)(hp:H p=none)(hks:ks.length=xs.length)(l:RepL G.1 (AV av A) H xs vs)(hw:∀j,j∈ow1 ↔ j∈ow\/j=i)(hn:G.2 i=none) :
 ER G ow1 H0 av (λj=>if j=i then some p else A j) (σ.set i (some (.ref p))) (upd H p (.dK (ks.zip vs))) (δ.set i (some (.dct ks xs))):=by
 have hs:Same H (upd H p (.dK (ks.zip vs))):=ZW hp
 have less:∀b,AV av (λj=>if j=i then some p else A j) b->AV av A b\/H b=none:=λb z=>by
  rcases z with z|⟨j,z⟩
  · exact .inl (.inl z)
  · by_cases e:j=i
    · simp [e]at z;subst z;exact .inr hp
    · simp [e]at z;exact .inl (.inr ⟨j,z⟩)
 have np:∀j a,A j=some a->a≠p:=λj a e z=>by subst z;exact E.live j a e hp
 have h0:H0 p=none:=by
  cases q:H0 p with
  |none=>rfl
  |some o=>rw [E.same p o q]at hp;cases hp
 refine⟨E.same.trans hs,E.avd,λj a e => ?_,λj k a e1 e2 => ?_,λj a e => ?_,λj e => ?_,λj hj => ?_,by simp [E.len],λj a e=>(by
  have q:j≠i:=λz=>by rw [z,hn]at e;cases e
  simp only [q,if_false];exact E.pin j a e),(λj v' e=>by
  have q:j≠i:=λz=>by rw [z,hn]at e;cases e
  rw [List.getElem?_set_ne (Ne.symm q)];exact E.kept j v' e),λj d' e => ?_⟩
 · by_cases q:j=i
   · simp [q]at e;subst e;exact h0
   · simp [q]at e;exact E.fr j a e
 · by_cases q:j=i
   · by_cases q2:k=i
     · rw [q,q2]
     · simp [q]at e1;simp [q2]at e2
       exact absurd e1.symm (np k a e2)
   · by_cases q2:k=i
     · simp [q]at e1;simp [q2]at e2
       exact absurd e2.symm (np j a e1)
     · simp [q]at e1;simp [q2]at e2;exact E.inj j k a e1 e2
 · by_cases q:j=i
   · simp [q]at e;subst e;rw [ZO];exact λz=>by cases z
   · simp [q]at e
     rw [Zz (np j a e)];exact E.live j a e
 · by_cases q:j=i
   · exact(hw j).mpr (.inr q)
   · simp [q]at e;exact(hw j).mpr (.inl (E.dom j e))
 · by_cases q:j=i
   · simp [q]
   · simp [q]
     exact E.dom' j (((hw j).mp hj).resolve_right q)
 · rcases Jz e with⟨rfl,rfl,hl⟩|⟨q,e'⟩
   · refine⟨.ref p,?_,λz=>by simp at z,λa z => ?_⟩
     · rw [List.getElem?_set_self (by rw [E.len];exact hl)]
     · simp at z
       subst z;exact⟨rfl,vs,ZO,hks,(l.av less).same hs⟩
   · obtain⟨v',h1,h2,h3⟩:=E.var j d' e'
     refine⟨v',by rw [List.getElem?_set_ne (Ne.symm q)];exact h1,λz => ?_,λa z => ?_⟩
     · simp [q]at z
       exact((h2 z).av less).same hs
     · simp [q]at z
       obtain⟨r1,r2⟩:=h3 a z;refine⟨r1,?_⟩;cases d' with
       |lst xs=>obtain⟨vs',q1,q2⟩:=r2;exact⟨vs',hs _ _ q1,(q2.av less).same hs⟩
       |obj c ks xs=>obtain⟨dx,vs',q1,q0,q2⟩:=r2;exact⟨dx,vs',hs _ _ q1,q0,(q2.av less).same hs⟩
       |dct ks xs=>obtain⟨vs',q1,q0,q2⟩:=r2;exact⟨vs',hs _ _ q1,q0,(q2.av less).same hs⟩
       |dtt ks xs=>obtain⟨vs',q1,q0,q2⟩:=r2;exact⟨vs',hs _ _ q1,q0,(q2.av less).same hs⟩
       |_=>exact r2
def VFD(G:Cn)(ow:List Nat)(te:TE)(ε:Env->Option D):Prop:=
 ∀H0 av A σ H δ,ER G ow H0 av A σ H δ->∀d,ε δ=some d->∀Q:VK,(∀p ks vs xs H1,Same H H1->H1 p=none->ks.length=xs.length->RepL G.1 (AV av A) H1 xs vs->d = .dct ks xs->Q (.ref p) (upd H1 p (.dK (ks.zip vs))))->te σ H Q
theorem ZhM:VFD G ow tDNewK (eC (.dct [] [])):=λH0 av A σ H δ E d e Q k=>λp hp=>by
 cases e;exact k p [] [] [] H (Same.refl H) hp rfl .nil rfl
theorem Zez{te:TE}{ε:Env->Option D}(i:Nat)(h:VFD G ow te ε)(hn:G.2 i=none)(h1:sub owN (i::ow)=true)(h2:owN.contains i=true)(h3:sub ow owN=true):VS G ow owN owB owC (X3 te (Y8 i)) (Zq i ε):=λH0 av A σ H δ E o e De k=>by
 unfold Zq at e;cases he:ε δ with
 |none=>rw [he]at e;cases e
 |some d=>
  rw [he]at e;cases e;refine h H0 av A σ H δ E d he _ λp ks vs xs H1 s hp hk l hd => ?_
  subst hd;exact k _ _ _ (ZhL (E.mono s) hp hk l (ZcW h1 h2 h3) hn)
def inK(neg:Bool):D->D->Option D
 |x,.dct ks _=>match XX x with
  |some k=>some (.bl (neg != Xu k ks))
  |none=>none
 |_,_=>none
theorem Zc4{neg:Bool}{x y d:D}(h:inK neg x y=some d):∃ks xs k,y = .dct ks xs/\XX x=some k/\d = .bl (neg != Xu k ks):=by
 unfold inK at h
 split at h
 · rename_i ks xs
   cases hk:XX x with
   |none=>rw [hk]at h;cases h
   |some k=>rw [hk]at h;exact⟨ks,xs,k,rfl,rfl,(Option.some.inj h).symm⟩
 · cases h
theorem Zjy{ta tb:TE}{qa qb:Ql}{a b:Env->Option D}(ha:VE G ow ta qa a)(hb:VE G ow tb qb b):VE G ow (ZlZ ta tb) .cl (eOp (inK false) a b):=λH0 av A σ H δ E d e Q k=>by
 obtain⟨x,y,ex,ey,ed⟩:=Qj e;obtain⟨ks,xs,kk,rfl,hk,rfl⟩:=Zc4 ed;obtain⟨hv,hs⟩:=Q2 hk;refine ha H0 av A σ H δ E _ ex _ λv H1 s1 r1=>hb H0 av A σ H1 δ (E.mono s1) _ ey _ λw H2 s2 r2 => ?_
 have e1:v=kV kk:=(r1.any.val hs).trans hv;obtain⟨p,vs,rfl,_,rd,hl,l⟩:=r2.tp;refine⟨p,_,rfl,e1▸DGet.k rd,?_⟩;rw [Zc1 kk (hl.trans l.length)];have:=k (.bl (false != Xu kk ks)) H2 (s1.trans s2) blq;rw [Bool.false_bne]at this;exact this
theorem Zfi{ta tb:TE}{qa qb:Ql}{a b:Env->Option D}(ha:VE G ow ta qa a)(hb:VE G ow tb qb b):VE G ow (Zem ta tb) .cl (eOp (inK true) a b):=λH0 av A σ H δ E d e Q k=>by
 obtain⟨x,y,ex,ey,ed⟩:=Qj e;obtain⟨ks,xs,kk,rfl,hk,rfl⟩:=Zc4 ed;obtain⟨hv,hs⟩:=Q2 hk;refine ha H0 av A σ H δ E _ ex _ λv H1 s1 r1=>hb H0 av A σ H1 δ (E.mono s1) _ ey _ λw H2 s2 r2 => ?_
 have e1:v=kV kk:=(r1.any.val hs).trans hv;obtain⟨p,vs,rfl,_,rd,hl,l⟩:=r2.tp;refine⟨p,_,rfl,e1▸DGet.k rd,?_⟩;rw [Zc1 kk (hl.trans l.length)];have:=k (.bl (true != Xu kk ks)) H2 (s1.trans s2) blq;rw [Bool.true_bne]at this;exact this
def Qu:D->D->Option D
 | .dct ks xs,x=>match XX x with
  |some k=>UI k ks xs
  |none=>none
 |_,_=>none
theorem Zfj{x y d:D}(h:Qu y x=some d):∃ks xs k,y = .dct ks xs/\XX x=some k/\UI k ks xs=some d:=by
 unfold Qu at h
 split at h
 · rename_i ks xs
   cases hk:XX x with
   |none=>rw [hk]at h;cases h
   |some k=>rw [hk]at h;exact⟨ks,xs,k,rfl,rfl,h⟩
 · cases h
theorem ZhN{ta tb:TE}{qa qb:Ql}{a b:Env->Option D}(hq:qa = .cl\/qa = .tp)(ha:VE G ow ta qa a)(hb:VE G ow tb qb b):VE G ow (ZiC ta tb) .cl (eOp Qu a b):=λH0 av A σ H δ E d e Q k=>by
 obtain⟨y,x,ey,ex,ed⟩:=Qj e;obtain⟨ks,xs,kk,rfl,hk,hlk⟩:=Zfj ed;obtain⟨hv,hs⟩:=Q2 hk;refine ha H0 av A σ H δ E _ ey _ λv H1 s1 r1=>hb H0 av A σ H1 δ (E.mono s1) _ ex _ λw H2 s2 r2 => ?_
 have e1:w=kV kk:=(r2.any.val hs).trans hv
 have r3:RepT G.1 av (AV av A) H2 (.dct ks xs) v:=by
  have:=(r1.same s2).tp;rcases hq with rfl|rfl<;>exact this
 obtain⟨p,vs,rfl,_,rd,hl,l⟩:=r3;obtain⟨u,h1,h2⟩:=Zc2 kk l hlk;refine⟨p,u,rfl,?_,k u H2 (s1.trans s2) h2.t⟩;rw [<-h1,e1];exact DGet.k rd
def Xv(i:Nat)(κ ε:Env->Option D)(δ:Env):Option Out:=match ε δ,Za i δ,κ δ with
 |some d,some (.dct ks xs),some x=>match XX x with
  |some k=>if ks.length<sizeLine then some (.nx (δ.set i (some (Vy ks xs k d))))else none
  |none=>none
 |_,_,_=>none
theorem ZdF{i:Nat}{κ ε:Env->Option D}{δ:Env}{o:Out}(h:Xv i κ ε δ=some o):∃d ks xs x k,ε δ=some d/\Za i δ=some (.dct ks xs)/\κ δ=some x/\XX x=some k/\ks.length<sizeLine/\o = .nx (δ.set i (some (Vy ks xs k d))):=by
 unfold Xv at h
 split at h
 · rename_i d ks xs x h1 h2 h3
   cases hk:XX x with
   |none=>rw [hk]at h;cases h
   |some k=>
    rw [hk]at h;dsimp only at h
    by_cases hz:ks.length<sizeLine
    · rw [if_pos hz]at h
      exact⟨d,ks,xs,x,k,h1,h2,h3,hk,hz,(Option.some.inj h).symm⟩
    · rw [if_neg hz]at h;cases h
 · cases h
theorem ZeA{te ti:TE}{q:Ql}{ε κ:Env->Option D}(i:Nat)(hi:ow.contains i=true)(h:VE G ow te .cl ε)(hk:VE G ow ti q κ):VS G ow ow owB owC (ZiD (YR i) ti te) (Xv i κ ε):=λH0 av A σ H δ E o e De k=>by
 obtain⟨d,ks,xs,x,kk,e1,e2,e3,hkk,hz,rfl⟩:=ZdF e;obtain⟨hv,hs⟩:=Q2 hkk;have hi':i∈ow:=by simpa using hi
 cases hA:A i with
 |none=>exact absurd hA (E.dom' i hi')
 |some a=>
  refine h H0 av A σ H δ E d e1 _ λv H1 s1 r1 => ?_
  have E1:=E.mono s1;obtain⟨u,g1,_,g3⟩:=E1.var i _ (Xj e2);refine⟨u,g1,hk H0 av A σ H1 δ E1 _ e3 _ λy H2 s2 r2 => ?_⟩;have E2:=E1.mono s2;obtain⟨u',g1',_,g3'⟩:=E2.var i _ (Xj e2);obtain⟨rfl,vs,q1,q0,q2⟩:=g3' a hA;have eu:u = .ref a:=(g3 a hA).1;subst eu;have ey:y=kV kk:=(r2.any.val hs).trans hv;subst ey;refine⟨a,_,rfl,DPut.k q1 ?_,k A σ _ (E2.put hA (Xj e2) (λb o hb e=>by rw [Zz hb];exact e) (by rw [ZO];exact λz=>by cases z) ?_)⟩
  · have:(ks.zip vs).length=ks.length:=by rw [List.length_zip,<-q2.length,q0];omega
    rw [this];exact hz
  · have ex : ∀ b o, ¬ AV av A b -> H2 b = some o -> upd H2 a (.dK (YY (ks.zip vs) kk v)) b = some o := fun b o n e => by
     rw [Zz λz=>n (.inr ⟨i,by rw [z];exact hA⟩)];exact e
    exact ZhK kk q0 (q2.ext ex) ((RepT.r (r1.same s2)).ext ex) ZO
end
end DL
namespace L2
open PySem
theorem Q3{X:Cx}(h:X.A.units+64<cLine):X.A.units+1<cLine:=by omega
end L2
namespace DL
open PySem PySem.Spec L2
section
variable{G:Cn}{ow owN owB owC ow1:List Nat}
end
section
variable{cA:Kn}{G:Cn}{ow owN owB owC ow1:List Nat}{i:Nat}
end
section
variable{P:Program}{w:World}{K:PySem.W.Frag}{mg:Str->Option Value}{base:Heap}{cA:Kn}
open Classical in
end
end DL
namespace L2
open PySem PySem.Spec PyProof.Rows
section
variable{X:Cx}
end
end L2
namespace DL
open PySem PySem.Spec L2
section
variable{cA:Kn}{G:Cn}{ow owN owB owC ow1:List Nat}{i:Nat}
mutual
def frz:D->Bool
 | .non=>true
 | .bl _=>true
 | .int _=>true
 | .str _=>true
 | .lst _=>false
 | .tup xs=>frzL xs
 | .obj _ _ xs=>frzL xs
 | .dct _ _=>false
 | .dtt _ _=>false
def frzL:List D->Bool
 | []=>true
 |x::xs=>frz x&&frzL xs
end
mutual
theorem Rep.frz{av av':Addr->Prop}{H:Hp}:∀{d:D}{v:V},frz d=true->(∀b,av' b->av b\/∃vs,H b=some (.lst vs))->Rep cA av H d v->Rep cA av' H d v
 | .non,_,_,_,h=>h
 | .bl _,_,_,_,h=>h
 | .int _,_,_,_,h=>h
 | .str _,_,_,_,h=>h
 | .lst xs,v,hf,k,h=>by cases hf
 | .tup xs,v,hf,k,h=>by
  unfold DL.frz at hf;unfold Rep at h ⊢;obtain⟨a,vs,e,n,r,l⟩:=h;exact⟨a,vs,e,λz=>(k a z).elim n (by rw [r];exact λ⟨_,z⟩=>by cases z),r,RepL.frz hf k l⟩
 | .obj c ks xs,v,hf,k,h=>by
  unfold DL.frz at hf;unfold Rep at h ⊢;obtain⟨a,dx,vs,e,n,r,z,l⟩:=h;exact⟨a,dx,vs,e,λz=>(k a z).elim n (by rw [r];exact λ⟨_,z⟩=>by cases z),r,z,RepL.frz hf k l⟩
 | .dct ks xs,v,hf,k,h=>by cases hf
 | .dtt ks xs,v,hf,k,h=>by cases hf
theorem RepL.frz{av av':Addr->Prop}{H:Hp}:∀{xs:List D}{vs:List V},frzL xs=true->(∀b,av' b->av b\/∃vs,H b=some (.lst vs))->RepL cA av H xs vs->RepL cA av' H xs vs
 | [],_,_,_,h=>h
 |x::xs,vs,hf,k,h=>by
  unfold DL.frzL at hf;rw [Bool.and_eq_true]at hf;unfold RepL at h ⊢;obtain⟨v,r,e,h1,h2⟩:=h;exact⟨v,r,e,Rep.frz hf.1 k h1,RepL.frz hf.2 k h2⟩
end
end
end DL
namespace PySem
open Sem (wp)
section
variable{prog:Program}{w:World}{A:Around}{E:Value->Shared->Prop}{s:Shared}
theorem Zcy {j t:Addr} {i:Nat} {xs:Array Value} {x:Value} {Q:Value->Shared->Prop} (hj:s.heap.IsTupleIter j t i) (ht:s.heap.IsTuple t xs) (hx:xs[i]? = some x)
 (hQ:∀h',h'.IsTupleIter j t (i+1)->Heap.SameBut j s.heap h'->Q x { s with heap:=h' }):wpAny (model prog w) A (Builtin.SmallTypes.nextOf (.ref j)) Q E s:=by
 obtain⟨oj,gj,cj,dj⟩:=id hj;obtain⟨ot,gt,_,nt,dt⟩:=ht;unfold Builtin.SmallTypes.nextOf;refine wpAny_bind (wpAny_callSpecial?_slot (name:=Str.ofString "__next__") hj.typeIs F.slot_tuple_iterator_next (wpAny_call_entry F.slot_tuple_iterator_next hj.typeIs F.entry_tuple_iterator_next ?_ (F.args_tuple_iterator_next_1 _)));show wpAny _ _ (field (.ref j) 0 >>= _) _ _ s;refine wpAny_bind (wpAny_field gj dj (x:=.ref t) rfl ?_)
 show wpAny _ _ (if(Value.ref t == Value.none)=true then _ else _) _ _ _;rw [if_neg (show ¬(Value.ref t == Value.none)=true from λz=>Bool.false_ne_true z)];show wpAny _ _ (field (.ref j) 1 >>= _) _ _ s;refine wpAny_bind (wpAny_field gj dj (x:=.int i 0) rfl ?_);show wpAny _ _ (seqItems? (.ref t) >>= _) _ _ _;refine wpAny_bind (wpAny_seqItems gt dt ?_);simp only [Int.toNat_natCast,hx];refine wpAny_bind (wpAny_setField gj dj (by simp) (wpAny_pure ⟨x,rfl,wpAny_pure (hQ _ ?_ (Heap.SameBut.update ..))⟩))
 refine⟨_,Heap.get?_update_self _ gj (Obj.isFreed_of_fields (Obj.data_mapFields dj _)),(Obj.cls_mapFields ..).trans cj,?_⟩;rw [Obj.data_mapFields dj];simp [rawInt]
theorem ZaU {j t:Addr} {i:Nat} {xs:Array Value} {Q:Value->Shared->Prop} (hh:A.handled=none) (hj:s.heap.IsTupleIter j t i) (ht:s.heap.IsTuple t xs) (hx:xs[i]? = none)
 (hE:∀h' e,Heap.ExtBut j s.heap h'->(∃o,h'.get? e=some o/\o.cls = .type "StopIteration")->E (.ref e) { s with heap:=h' }):wpAny (model prog w) A (Builtin.SmallTypes.nextOf (.ref j)) Q E s:=by
 obtain⟨oj,gj,cj,dj⟩:=id hj;obtain⟨ot,gt,_,nt,dt⟩:=ht;unfold Builtin.SmallTypes.nextOf;refine wpAny_bind (wpAny_callSpecial?_slot (name:=Str.ofString "__next__") hj.typeIs F.slot_tuple_iterator_next (wpAny_call_entry F.slot_tuple_iterator_next hj.typeIs F.entry_tuple_iterator_next ?_ (F.args_tuple_iterator_next_1 _)));show wpAny _ _ (field (.ref j) 0 >>= _) _ _ s;refine wpAny_bind (wpAny_field gj dj (x:=.ref t) rfl ?_)
 show wpAny _ _ (if(Value.ref t == Value.none)=true then _ else _) _ _ _;rw [if_neg (show ¬(Value.ref t == Value.none)=true from λz=>Bool.false_ne_true z)];show wpAny _ _ (field (.ref j) 1 >>= _) _ _ s;refine wpAny_bind (wpAny_field gj dj (x:=.int i 0) rfl ?_);show wpAny _ _ (seqItems? (.ref t) >>= _) _ _ _;refine wpAny_bind (wpAny_seqItems gt dt ?_);simp only [Int.toNat_natCast,hx];refine wpAny_bind (wpAny_rule (wpAny_bind (wpAny_setField gj dj (by simp) ?_)))
 show wpAny _ _ (newExc (.type "StopIteration") List.nil >>= _) _ _ _;refine wpAny_bind ?_;simp only [newExc,newTuple];refine wpAny_bind (wpAny_newObj_type (wpAny_bind (m:=firstArgMember _ _) (wpAny_of_eq (a:=Value.none) (by first|rfl|(simp only [firstArgMember];rfl)) (wpAny_newObj_type ?_ (by size_fits)))) (by size_fits));simp only [raiseNew];refine wpAny_bind (wpAny_handled ?_)
 first|rw [show A.in1.handled=none from hh]|rw [hh]
 exact wpAny_bind (wpAny_pure (wpAny_throw (hE _ _ (((Heap.SameBut.update ..).extBut.push _).push _) ⟨_,Heap.get?_push_size _ rfl,rfl⟩)))
end
def IsQI(k:Bool)(h:Heap)(a l:Addr)(i:Nat):Prop:=match k with
 |true=>h.IsTupleIter a l i
 |false=>h.IsListIter a l i
def IsQ(k:Bool)(h:Heap)(l:Addr)(xs:Array Value):Prop:=match k with
 |true=>h.IsTuple l xs
 |false=>h.IsList l xs
theorem IsQI.get{k:Bool}{h:Heap}{a l:Addr}{i:Nat}(x:IsQI k h a l i):∃o,h.get? a=some o/\o.data = .fields #[.ref l,.int i 0]:=by
 cases k with
 |true=>obtain⟨o,e,_,d⟩:=x;exact⟨o,e,d⟩
 |false=>obtain⟨o,e,_,d⟩:=x;exact⟨o,e,d⟩
theorem IsQI.at{k:Bool}{h h':Heap}{a l:Addr}{i:Nat}(x:IsQI k h a l i)(f:∀o,h.get? a=some o->h'.get? a=some o):IsQI k h' a l i:=by
 cases k with
 |true=>obtain⟨o,e,r⟩:=x;exact⟨o,f o e,r⟩
 |false=>obtain⟨o,e,r⟩:=x;exact⟨o,f o e,r⟩
theorem IsQI.ext{k:Bool}{h h':Heap}{a b l:Addr}{i:Nat}(x:IsQI k h a l i)(hs:Heap.ExtBut b h h')(n:a≠b):IsQI k h' a l i:=x.at λo e=>hs a o n e
theorem IsQ.at{k:Bool}{h h':Heap}{l:Addr}{xs:Array Value}(x:IsQ k h l xs)(f:∀o,h.get? l=some o->h'.get? l=some o):IsQ k h' l xs:=by
 cases k with
 |true=>obtain⟨o,e,r⟩:=x;exact⟨o,f o e,r⟩
 |false=>obtain⟨o,e,r⟩:=x;exact⟨o,f o e,r⟩
theorem IsQ.ext{k:Bool}{h h':Heap}{b l:Addr}{xs:Array Value}(x:IsQ k h l xs)(hs:Heap.ExtBut b h h')(n:l≠b):IsQ k h' l xs:=x.at λo e=>hs l o n e
theorem IsQ.lt{k:Bool}{h:Heap}{l:Addr}{xs:Array Value}(x:IsQ k h l xs):l<h.objs.size:=by
 cases k with
 |true=>obtain⟨o,e,_⟩:=x;exact Heap.lt_size e
 |false=>obtain⟨o,e,_⟩:=x;exact Heap.lt_size e
section
variable{prog:Program}{w:World}{A:Around}{E:Value->Shared->Prop}{s:Shared}
end
section
variable{prog:Program}{w:World}{A:Around}{E:Value->Shared->Prop}{s:Shared}
end
end PySem
namespace L2
open PySem PySem.Spec PyProof.Rows
def SqQ(k:Bool)(K:PySem.W.Frag)(H:Hp)(a:Addr)(xs:List V):Prop:=match k with
 |true=>SqT K H a xs
 |false=>SqL K H a xs
section
variable{X:Cx}{elts:List Expr}{x1:Nat}{tpos:Pos}
end
end L2
namespace DL
open PySem PySem.Spec L2
section
variable{cA:Kn}{G:Cn}{ow:List Nat}
theorem ZfY{k:Bool}{K:PySem.W.Frag}{H H':Hp}{a:Addr}{xs:List V}(e:Same H H')(h:SqQ k K H a xs):SqQ k K H' a xs:=by
 cases k with
 |false=>exact Same.seq e h
 |true=>
  rcases h with(h|⟨o,h⟩)|h
  · exact .inl (.inl (e _ _ h))
  · exact .inl (.inr ⟨o,e _ _ h⟩)
  · exact .inr h
end
end DL
namespace DL
open PySem PySem.Spec PyProof.Rows L2
def V5:List Int->Int
 | []=>0
 |n::ns=>ns.foldl min n
theorem Zaf:∀(ns:List Int)(n:Int),(ns.foldl min n=n\/ns.foldl min n∈ns)/\ns.foldl min n<=n/\∀a∈ns,ns.foldl min n<=a
 | [],n=>⟨.inl rfl,Int.le_refl _,λ_ z=>nomatch z⟩
 |m::ns,n=>by
  obtain⟨h1,h2,h3⟩:=Zaf ns (min n m);rw [List.foldl_cons];refine⟨?_,by omega,λa ha => ?_⟩
  · rcases h1 with h|h
    · by_cases hm:n<=m
      · exact .inl (by rw [h,Int.min_eq_left hm])
      · exact .inr (by rw [h,Int.min_eq_right (by omega)];exact List.mem_cons_self)
    · exact .inr (List.mem_cons_of_mem _ h)
  · rcases List.mem_cons.mp ha with rfl|ha
    · omega
    · exact h3 a ha
theorem ZaH{ns:List Int}(h:0<ns.length):V5 ns∈ns/\∀a∈ns,V5 ns<=a:=by
 cases ns with
 |nil=>cases h
 |cons n ns=>
  obtain⟨h1,h2,h3⟩:=Zaf ns n;refine⟨?_,λa ha => ?_⟩
  · rcases h1 with h|h
    · show ns.foldl min n∈_
      rw [h];exact List.mem_cons_self
    · exact List.mem_cons_of_mem _ h
  · rcases List.mem_cons.mp ha with rfl|ha
    · exact h2
    · exact h3 a ha
theorem ZbH{ns:List Int}{M:Int}(h1:M∈ns)(h2:∀a∈ns,M<=a):M=V5 ns:=by
 obtain⟨h3,h4⟩:=ZaH (List.length_pos_of_mem h1);exact Int.le_antisymm (h2 _ h3) (h4 M h1)
def Zg6(K:PySem.W.Frag):List V->Hp->VK->Prop:=λxs H Q=>∃(p:Addr) (ns:List Int),xs=[.ref p]/\SqL K H p (ns.map V.int)/\0<ns.length/\Q (.int (V5 ns)) H
def Xw(ns:List Int):List Int:=ns.mergeSort λa b=>decide (a<=b)
theorem Zc5(ns:List Int):(Xw ns).Pairwise (· <= ·):=by
 have:=List.pairwise_mergeSort (le:=λa b:Int=>decide (a<=b)) (λa b c h1 h2=>by simp at h1 h2 ⊢;omega) (λa b=>by simp;omega) ns;exact this.imp λh=>by simpa using h
theorem ZdG{ns ms:List Int}(hp:ms.Perm ns)(hs:ms.Pairwise (· <= ·)):ms=Xw ns:=
 List.Perm.eq_of_pairwise (λa b _ _ h1 h2=>Int.le_antisymm h1 h2) hs (Zc5 ns) (hp.trans (List.mergeSort_perm ns _).symm)
theorem ZbI(ns:List Int):(Xw ns).length=ns.length:=(List.mergeSort_perm ns _).length_eq
def Zd2(K:PySem.W.Frag):List V->Hp->VK->Prop:=λxs H Q=>∃(p:Addr) (ns:List Int),xs=[.ref p]/\SqL K H p (ns.map V.int)/\ns.length<64/\∀r,H r=none->Q (.ref r) (upd H r (.lst ((Xw ns).map V.int)))
theorem Zcz:∀{its:List Value}{ns:List Int},IntsAre its ns->Vals (ns.map V.int) its:=by
 intro its ns h
 induction h with
 |nil=>exact .nil
 |cons n t _ ih=>exact .cons ⟨t,rfl⟩ ih
section
variable{X:Cx}{K:PySem.W.Frag}{cA:Kn}
theorem Zfk(hc:X.calm=true):Ym X (.builtin "min") (Zg6 X.K):=by
 intro pins s σ H xs us Q I rs h;obtain⟨p,ns,rfl,hq,hne,q⟩:=h;obtain⟨u,rfl,rx⟩:=Y2 rs;cases rx;obtain⟨its,rv,pl,hz⟩:=I.list hq;have hi:=UD ns its rv;obtain⟨ys,e⟩:=hi.allInts.items
 have hns:ns=ys.toList.map (·.1):=by
  rw [<-hi.numsOf,<-nums_intItems,<-e]
 have hsz:0<ys.size:=by
  have h3:=hne;rw [hns,List.length_map,Array.length_toList]at h3;exact h3
 have hl:=pl.isList;rw [e]at hl;refine min_intList (I.ok.hd hc) hl hsz λv h' tk hv hk => ?_
 obtain⟨t,rfl⟩:=intItems_at hv;obtain⟨h1,h2⟩:=argBest_lt (numAt ys) (ys.size-1)
 have hM:=ZbH (ns:=ns) (M:=numAt ys (argBest (λi j=>decide (numAt ys i<numAt ys j)) (ys.size-1))) (by
  rw [hns,numAt_eq];exact getD_mem (by rw [List.length_map,Array.length_toList];omega)) (λa ha=>by
  rw [hns]at ha;obtain⟨j,hj,rfl⟩:=mem_getD ha;rw [List.length_map,Array.length_toList]at hj;rw [<-numAt_eq];exact h2 j (by omega))
 exact⟨.int (V5 ns),H,I.kept hk,⟨t,by rw [hM]⟩,q⟩
theorem ZdH:Ym X (.builtin "sorted") (Zd2 X.K):=by
 intro pins s σ H xs us Q I rs h;obtain⟨p,ns,rfl,hq,h64,q⟩:=h;obtain⟨u,rfl,rx⟩:=Y2 rs;cases rx;obtain⟨its,rv,pl,hz⟩:=I.list hq;have hi:=UD ns its rv;have hlen:its.length=ns.length:=by have:=rv.length;rw [List.length_map]at this;omega
 refine sorted_ints pl.isList hi (by omega) λout ns' hi' hp hs => ?_
 have e:=ZdG hp hs;subst e;obtain⟨n0,ho⟩:=sortedAll_at s.heap its out;have hv:Vals ((Xw ns).map V.int) out.toList:=Zcz hi';refine⟨.ref (s.heap.objs.size+1),_,I.laid (a:=s.heap.objs.size+1) (o:=.lst ((Xw ns).map V.int)) (t':=s.toks) (λb o hb=>sortedAll_old hb) (Nat.le_succ _) ?_,rfl,q _ (I.hok.fresh (Nat.le_succ _))⟩;show ObjOk X.prog X.w _ _ _ (.lst _);refine⟨?_,out.toList,n0,hv,?_⟩
 · rw [List.length_map,ZbI,PySem.sizeLine_eq];omega
 · exact ho
theorem ZhO(hK:X.K=K:=by rfl):Ym X (.builtin "sorted") (Zd2 K):=hK▸ZdH
def minLD:List D->Option D
 | [.lst xs]=>match YV xs with
  |some ns=>if 0<ns.length then some (.int (V5 ns))else none
  |none=>none
 |_=>none
theorem ZhP:Vt cA (Zg6 cA.K) minLD:=λi H ds vs d _ h e Q k=>by
 unfold minLD at e
 split at e
 · rename_i xs
   cases hb:YV xs with
   |none=>rw [hb]at e;cases e
   |some bs=>
    rw [hb]at e;dsimp only at e
    by_cases hz:0<bs.length
    · rw [if_pos hz]at e
      cases e;obtain⟨v,t,rfl,a,ws,rfl,_,rd,l⟩:=il1 h;have ex:=UC hb;subst ex;have ev:=l.vals (by rw [List.all_map];exact List.all_eq_true.mpr λ_ _=>rfl);rw [List.map_map]at ev;subst ev;exact⟨a,bs,rfl,rd,hz,k _ H (Same.refl H) rfl⟩
    · rw [if_neg hz]at e;cases e
 · cases e
def UZ:List D->Option D
 | [.lst xs]=>match YV xs with
  |some ns=>if ns.length<64 then some (.lst ((Xw ns).map D.int))else none
  |none=>none
 |_=>none
variable{G:Cn}{ow:List Nat}
theorem ZhQ{t:TA}{q:Ql}{α:Env->Option (List D)}(hq:q = .cl\/q = .tp)(h:VA G ow t q α):VF G ow (tCB (Zd2 G.1.K) t) (eCB UZ α):=λH0 av A σ H δ E d e Q k=>by
 unfold eCB at e;cases he:α δ with
 |none=>rw [he]at e;cases e
 |some ds=>
  rw [he]at e;replace e:UZ ds=some d:=e;unfold UZ at e
  split at e
  · rename_i xs
    cases hb:YV xs with
    |none=>rw [hb]at e;cases e
    |some ns=>
     rw [hb]at e;dsimp only at e
     by_cases hz:ns.length<64
     · rw [if_pos hz]at e
       cases e;refine h H0 av A σ H δ E _ he _ λvs H1 s1 r1 => ?_
       have il:UV G.1 (AV av A) H1 [.lst xs] vs:=by
        rcases hq with rfl|rfl<;>exact r1.il
       obtain⟨v,t,rfl,a,ws,rfl,_,rd,l⟩:=il1 il;have ex:=UC hb;subst ex;have ev:=l.vals (by rw [List.all_map];exact List.all_eq_true.mpr λ_ _=>rfl);rw [List.map_map]at ev;subst ev;refine⟨a,ns,rfl,rd,hz,λp hp=>k p _ _ H1 s1 hp ?_ rfl⟩;have:=RepL.of_vals (cA:=G.1) (av:=AV av A) (H:=H1) (xs:=(Xw ns).map D.int) (by rw [List.all_map];exact List.all_eq_true.mpr λ_ _=>rfl)
       rw [List.map_map]at this;exact this
     · rw [if_neg hz]at e;cases e
  · cases e
def JJ(κ ε:Env->Option D)(δ:Env):Option D:=match κ δ,Vn ε δ with
 |some x,some d=>match XX x with
  |some k=>some (.dct [k] [d])
  |none=>none
 |_,_=>none
open Classical in
theorem ZfZ{tk tv:TE}{q1 q2:Ql}{κ ε:Env->Option D}(h1:VE G ow tk q1 κ)(h2:VE G ow tv q2 ε):VFD G ow (ZiE [(tk,tv)]) (JJ κ ε):=λH0 av A σ H δ E d e Q k=>λp hp=>by
 unfold JJ at e;cases hx:κ δ with
 |none=>rw [hx]at e;cases e
 |some x=>
  cases hy:Vn ε δ with
  |none=>rw [hx,hy]at e;cases e
  |some y=>
   rw [hx,hy]at e;dsimp only at e;cases hk:XX x with
   |none=>rw [hk]at e;cases e
   |some kk=>
    rw [hk]at e;cases e;have sp:Same H (upd H p (.dK [])):=ZW hp;refine h1 H0 av A σ _ δ (E.mono sp) x hx _ λv H1 s1 r1 => ?_
    refine h2.scal H0 av A σ _ δ ((E.mono sp).mono s1) y hy _ λu H2 s2 r2 => ?_
    obtain⟨ek,sk⟩:=Q2 hk;have ev:v=kV kk:=by rw [<-ek];exact r1.any.val sk
    have sy:ZE y=true:=scal_of hy;have eu:u=val y:=(RepT.r r2).val sy;subst ev eu;have hp2:H2 p=some (.dK []):=s2 _ _ (s1 _ _ ZO);refine⟨hp2,[(kk,val y)],rfl,by show 1<=15;decide,?_⟩
    have eu2:upd H2 p (.dK (Qi [] [(kk,val y)]))=upd (λb=>if b=p then none else H2 b) p (.dK (([kk]:List Key).zip [val y])):=by
     funext b
     by_cases hb:b=p
     · rw [hb,ZO,ZO]
       rfl
     · rw [Zz hb,Zz hb,if_neg hb]
    rw [eu2];refine k p [kk] [val y] [y] (λb=>if b=p then none else H2 b) (λb o hb => ?_) (if_pos rfl) rfl (.cons (.of_val sy) .nil) rfl;have hbp:b≠p:=λz=>by rw [z,hp]at hb;cases hb
    show(if b=p then none else H2 b)=some o;rw [if_neg hbp];exact s2 _ _ (s1 _ _ (sp _ _ hb))
end
end DL
namespace DL
open PySem PySem.Spec L2
section
variable{cA:Kn}{av:Addr->Prop}{H:Hp}
end
section
variable{G:Cn}{ow owN owB owC ow1:List Nat}{H0 H:Hp}{av:Addr->Prop}{A:Nat->Option Addr}{σ:L2.St}{δ:Env}
end
end DL
namespace L2
open PySem PySem.Spec PyProof.Rows
section
variable{X:Cx}
end
end L2
namespace DL
open PySem PySem.Spec L2
section
variable{G:Cn}{ow owN owB owC ow1:List Nat}
open Classical in
end
end DL
namespace L2
open PySem PySem.Spec PyProof.Rows
section
variable{X:Cx}
end
end L2
namespace DL
open PySem PySem.Spec L2
section
variable{G:Cn}{ow owN owB owC ow1:List Nat}
def JK(γ:D->Env->Option Env)(ε:Env->Option D)(δ:Env):Option Out:=match ε δ with
 |some d=>match γ d δ with
  |some δ'=>some (.nx δ')
  |none=>none
 |none=>none
theorem ZhR{te:TE}{g:TG}{γ:D->Env->Option Env}{ε:Env->Option D}(h:VE G ow te .cl ε)(hg:VG G ow ow g γ):VS G ow ow owB owC (X3 te g) (JK γ ε):=λH0 av A σ H δ E o e De k=>by
 unfold JK at e;cases he:ε δ with
 |none=>rw [he]at e;cases e
 |some d=>
  rw [he]at e;dsimp only at e;cases hγ:γ d δ with
  |none=>rw [hγ]at e;cases e
  |some δ'=>
   rw [hγ]at e;cases e;refine h H0 av A σ H δ E d he _ λv H1 s1 r1 => ?_
   exact hg H0 av A σ H1 δ (E.mono s1) d v (RepT.r r1) δ' hγ _ λA' σ' H' s' E'=>k A' σ' H' E'
end
end DL
namespace DL
open PySem PySem.Spec L2
section
variable{cA:Kn}{G:Cn}{ow owN owB owC:List Nat}
theorem RepL.dropLast{av:Addr->Prop}{H:Hp}:∀{xs:List D}{vs:List V},RepL cA av H xs vs->RepL cA av H xs.dropLast vs.dropLast
 | [],vs,h=>by rw [h.nil_of];exact .nil
 | [x],vs,h=>by
  obtain⟨v,r,rfl,_,t⟩:=h.uncons;rw [t.nil_of];exact .nil
 |x::y::xs,vs,h=>by
  obtain⟨v,r,rfl,h1,t⟩:=h.uncons;obtain⟨w,r',rfl,h2,t2⟩:=t.uncons;exact .cons h1 (RepL.dropLast (xs:=y::xs) (vs:=w::r') t)
end
end DL
namespace DL
open PySem PySem.Spec L2
def eqP(x d:D):Bool:=PyData.eqv (toP d) (toP x)
section
variable{X:Cx}{cA:Kn}
open Classical in
end
end DL
namespace DL
open PySem PySem.Spec L2
section
variable{cA:Kn}{G:Cn}{ow owN owB owC ow1:List Nat}{i:Nat}{H0 H H':Hp}{av:Addr->Prop}{A:Nat->Option Addr}{σ:L2.St}{δ:Env}
theorem ER.less{H1:Hp}(s:Same H0 H1)(ha:∀a,av a->H0 a≠Option.none)(E:ER G ow H1 av A σ H δ):ER G ow H0 av A σ H δ:=
 ⟨s.trans E.same,ha,λi a e=>s.free (E.fr i a e),E.inj,E.live,E.dom,E.dom',E.len,E.pin,E.kept,E.var⟩
theorem MR.less{H1:Hp}(s:Same H0 H1)(ha:∀a,av a->H0 a≠none)(R:MR G ow i H1 av A σ H δ):MR G ow i H0 av A σ H δ:=by
 obtain⟨a,bs,rows,hd,M,h0,E⟩:=R.ex;refine⟨R.ni,R.nn,ha,a,bs,rows,hd,M,λx hx=>s.free (h0 x hx),ER.less (λx o e => ?_) (λx z => ?_) E⟩
 · by_cases h:x∈a::bs
   · rw [XI h]at e ⊢;exact e
   · rw [Xf h]at e ⊢;exact s x o e
 · by_cases h:x∈a::bs
   · rw [XI h]
     obtain⟨vs,q⟩:=M.there h;rw [q];exact λz=>by cases z
   · rw [Xf h]
     exact ha x (z.resolve_right h)
open Classical in
end
end DL
namespace DL
open PySem PySem.Spec L2
section
variable{cA:Kn}{G:Cn}{ow owN owB owC ow1:List Nat}{i:Nat}{H0 H H':Hp}{av:Addr->Prop}{A A':Nat->Option Addr}{σ σ':L2.St}{δ δ1:Env}
end
end DL
namespace DL
open PySem PySem.Spec L2
section
variable{cA:Kn}{G:Cn}{ow owN owB owC ow1:List Nat}{i:Nat}
def Qv(ψ:Env->Option Out)(δ:Env):Option Out:=match ψ δ with
 |some (.rt d)=>some (.rt d)
 |_=>none
theorem Zjz{u:TS}{ψ:Env->Option Out}(h:VS G ow ow1 [] [] u ψ):VM G ow owN owB owC i u (Qv ψ):=λH0 av A σ H δ R o e De k=>by
 unfold Qv at e
 split at e
 · rename_i d hp
   cases e;exact h H0 av A σ H δ R.view _ hp De k
 · cases e
open Classical in
end
end DL
namespace DL
open PySem PySem.Spec L2
section
variable{G:Cn}{ow ow1:List Nat}
end
end DL
namespace L2
open PySem PySem.Spec PyProof.Rows
structure CompSd(X:Cx)(scope:Scope)(tn cn:List Str)(js:List Nat):Prop where
 kind:scope.kind = .function
 own:∀y∈scope.names,y.2 = .cell->scope.names.lookup y.1=some .cell
 names:∀y∈scope.names,y.2 = .local->scope.names.lookup y.1=some .local
 free:∀y∈scope.names,y.2 = .free->X.env.kindOf y.1=some .cell\/X.env.kindOf y.1=some .free
 cap:∀(k:Nat)(x:Str),cn[k]? = some x->∃j,js[k]? = some j/\X.N[j]? = some x/\(X.env.kindOf x=some .cell\/X.env.kindOf x=some .free)/\scope.names.lookup x=some .free
 len:cn.length=js.length
section
variable{X:Cx}{pins:List (Addr×Obj)}{σ:St}{H₂:Hp}{s₂:Shared}{scope:Scope}{tn cn:List Str}{js:List Nat}
end
section
variable{X:Cx}{tg iter elt:Expr}{ifs:List Expr}{scope:Scope}{pos:Pos}{wi:TI}{g:TG}{tt:TT}{te:TE}{tn cn:List Str}{js:List Nat}
end
end L2
namespace PySem
abbrev ZjA(h:Heap)(z TI TO:Addr)(f0 f1:Value):Prop:=
 h.get? z=some { cls := .type "zip",dict:=none,data := .fields #[f0,f1,.bool false,.ref TI,.ref TO],slots := #[] }
section
variable{prog:Program}{w:World}{A:Around}{E:Value->Shared->Prop}{s:Shared}
structure ZipSt(h:Heap)(z TI TO i1 i2 l1 l2:Addr)(i:Nat):Prop where
 zip:∃f0 b,ZjA h z TI TO f0 (.bool b)/\((f0 = .none/\b=false)\/∃T o,f0=rawInt (T:Nat)/\h.get? T=some o)
 TI:IsPair h TI (.ref i1) (.ref i2)
 TO:∃a b,IsPair h TO a b
 it1:h.IsListIter i1 l1 i
 it2:h.IsListIter i2 l2 i
end
end PySem
namespace L2
open PySem PySem.Spec PyProof.Rows
end L2
namespace L2
open PySem PySem.Spec PyProof.Rows
section
variable{X:Cx}
open Classical in
end
end L2
namespace DL
open PySem PySem.Spec L2
section
variable{cA:Kn}{G:Cn}{ow:List Nat}
end
end DL
namespace L2
open PySem PySem.Spec PyProof.Rows
end L2
namespace DL
open PySem PySem.Spec L2
end DL
namespace DL
open PySem PySem.Spec L2
section
variable{cA:Kn}{G:Cn}{ow owN owB owC:List Nat}{H0 H H':Hp}{av:Addr->Prop}{A:Nat->Option Addr}{σ:L2.St}{δ:Env}
def Qw(ι:Env->Option (List D×Env))(γ:D->Env->Option Env)(φ:Env->Option Out)(δ:Env):Option Out:=match ι δ with
 |some (xs,δ')=>Z0 γ φ xs δ'
 |none=>none
def VIP(G:Cn)(ow:List Nat)(wi:TI)(ι:Env->Option (List D×Env)):Prop:=
 ∀H0 av A σ H δ,ER G ow H0 av A σ H δ->∀xs δ',ι δ=some (xs,δ')->∀R:It->Hp->Prop,(∀J H1,ER G ow H0 av A σ H1 δ'->Vv G.1 (AV av A) J xs (DL.cut A H1)->R J H1)->wi σ H R
theorem ZhS{wi:TI}{g:TG}{tb:TS}{ι:Env->Option (List D×Env)}{γ:D->Env->Option Env}{φ:Env->Option Out}(hi:VIP G ow wi ι)(hg:VG G ow ow g γ)(hb:VS G ow ow ow ow tb φ):VS G ow ow owB owC (VW wi g tb) (Qw ι γ φ):=λH0 av A σ H δ E o e De k=>by
 unfold Qw at e;cases he:ι δ with
 |none=>rw [he]at e;cases e
 |some xd=>
  obtain⟨xs,δn⟩:=xd;rw [he]at e;have e:Z0 γ φ xs δn=some o:=e;refine hi H0 av A σ H δ E xs δn he _ λJ H1 E1 W => ?_
  refine⟨λi m σ' H'=>m=xs.length-i/\i<=xs.length/\∃A' δ',ER G ow (DL.cut A H1) av A' σ' H' δ'/\Z0 γ φ (xs.drop i) δ'=some o,⟨xs.length,by simp,Nat.zero_le _,A,δn,E1.cut,e⟩,?_⟩
  rintro i m σ' H' ⟨rfl,hle,A',δ',E',e'⟩
  obtain⟨w1,w2,w3⟩:=W H' E'.same
  by_cases hlt:i<xs.length
  · refine .inr ⟨w1 i hlt,λσ2 H2=>∃A2 δ2,ER G ow (DL.cut A H1) av A2 σ2 H2 δ2/\Z0 γ φ (xs.drop (i+1)) δ2=some o,λσ2 H2 ⟨A2,δ2,E2,e2⟩=>⟨xs.length-(i+1),by omega,rfl,hlt,A2,δ2,E2,e2⟩,λv H2 y => ?_⟩
    have hx:xs[i]? = some xs[i]:=List.getElem?_eq_getElem hlt;obtain⟨s2,rep⟩:=w2 i _ v H2 hx y;have E2:=E'.mono s2
    have rep':Rep G.1 (AV av A') H2 xs[i] v:=rep _ E'.avl λb z=>by
     rcases z with z|⟨j,z⟩
     · exact .inl (.inl z)
     · exact .inr (E'.fr j b z)
    rw [List.drop_eq_getElem_cons hlt]at e';unfold Z0 at e';cases hγ:γ xs[i] δ' with
    |none=>rw [hγ]at e';cases e'
    |some δ1=>
     rw [hγ]at e';dsimp only at e';refine hg _ av A' σ' H2 δ' E2 _ v rep' δ1 hγ _ λA3 σ3 H3 s3 E3 => ?_
     cases hφ:φ δ1 with
     |none=>rw [hφ]at e';cases e'
     |some o1=>
      rw [hφ]at e';refine hb _ av A3 σ3 H3 δ1 E3 o1 hφ _ ?_;cases o1 with
      |nx δ2=>exact λA4 σ4 H4 E4=>⟨A4,δ2,E4,e'⟩
      |ct δ2=>exact λA4 σ4 H4 E4=>⟨A4,δ2,E4,e'⟩
      |bk δ2=>cases e';exact λA4 σ4 H4 E4=>k A4 σ4 H4 (E1.uncut E4)
      |rt d=>cases e';exact λv H4 s4 r4=>k v H4 (E1.sub0.trans s4) r4
  · have ei:i=xs.length:=by omega
    subst ei;rw [List.drop_length]at e';cases e';exact .inl ⟨w3 _ (Nat.le_refl _),k A' σ' H' (E1.uncut E')⟩
def Qx(j:Nat)(α:Env->Option D)(δ:Env):Option (List D×Env):=match α δ,Za j δ with
 |some x,some (.lst xs)=>match xs[xs.length-1]? with
  |some y=>match ZH (λ_=>ixD x y) []with
   |some ds=>some (ds,δ.set j (some (.lst xs.dropLast)))
   |none=>none
  |none=>none
 |_,_=>none
theorem Zf0{ta:TE}{α:Env->Option D}(j:Nat)(hj:ow.contains j=true)(h:VE G ow ta .cl α):VIP G ow (VZ G.1.K (tOp (UT G.1.K) ta (Ux G.1.K "list" rPop (YR j)))) (Qx j α):=λH0 av A σ H δ E ds δ' e R k=>by
 unfold Qx at e
 split at e
 · rename_i x xs ex ev
   cases hy:xs[xs.length-1]? with
   |none=>rw [hy]at e;cases e
   |some y=>
    rw [hy]at e;dsimp only at e;cases hi:ZH (λ_=>ixD x y) []with
    |none=>rw [hi]at e;cases e
    |some ds'=>
     rw [hi]at e;cases e;have hj':j∈ow:=by simpa using hj
     cases hA:A j with
     |none=>exact absurd hA (E.dom' j hj')
     |some a=>
      unfold ZH at hi;cases hd:ixD x y with
      |none=>rw [hd]at hi;cases hi
      |some d=>
       rw [hd]at hi;refine h H0 av A σ H δ E x ex _ λvx H1 s1 r1 => ?_
       have E1:=E.mono s1;obtain⟨v0,g1,_,g3⟩:=E1.var j _ (Xj ev);obtain⟨rfl,vs,q1,q2⟩:=g3 a hA;obtain⟨vy,hvy,ry⟩:=q2.get hy
       have xt:∀b o,¬AV av A b->H1 b=some o->upd H1 a (.lst vs.dropLast) b=some o:=λb o nb e=>by
        rw [Zz λz=>nb (.inr ⟨j,by rw [z];exact hA⟩)];exact e
       have E2:=E1.put hA (Xj ev) (H':=upd H1 a (.lst vs.dropLast)) (d' := .lst xs.dropLast) (λb o hb e=>by rw [Zz hb];exact e) (by rw [ZO];exact λz=>by cases z) ⟨_,ZO,(RepL.dropLast q2).ext xt⟩;refine⟨_,g1,.inl ⟨rfl,vs,SqL.of q1⟩,a,vs,vy,rfl,rfl,q1,by rw [<-q2.length];exact hvy,?_⟩;refine Zp (AV av A) (AV av A) (AV av A) _ x y vx vy d E2.avl ((RepT.r r1).ext xt).t (ry.ext xt).t hd _ λv H' s r => ?_
       have E3:=E2.mono s;cases d<;>first|(cases hi;done)|skip
       · cases hi
         exact .inr (.inr ⟨_,r,k _ H' E3 ZbE⟩)
       · cases hi
         obtain⟨a',vs',rfl,na,rd,l⟩:=r;exact .inl ⟨a',vs',rfl,rd,k _ H' E3 (Za1 (Ju na rd λb o n e=>by rw [Vu λ⟨i,z⟩=>n (.inr ⟨i,z⟩)];exact e) l.cut)⟩
       · cases hi
         obtain⟨a',vs',rfl,na,rd,l⟩:=r;exact .inr (.inl ⟨a',vs',rfl,SqT.of rd,k _ H' E3 (ZbD (by rw [Vu λ⟨i,z⟩=>na (.inr ⟨i,z⟩)];exact rd) l.cut)⟩)
 · cases e
end
end DL
namespace DL
open PySem PySem.Spec PyProof.Rows L2
section
variable{prog:Program}{w:World}{A:Around}{E:Value->Shared->Prop}{s:Shared}{l:Addr}{xs:Array (Int×Tok)}
theorem Zah {Q:Value->Shared->Prop} (hl:s.heap.IsTuple l (intItems xs))
 (h:∀s₂:Shared,s₂={ s with heap:=s.heap.push { cls := .type "tuple_iterator",data := .fields #[.ref l,.int 0 0] } } ->
   (s₂.heap.IsTupleIter s.heap.objs.size l 0/\s₂.heap.IsTuple l (intItems xs))->(∀b∈[s.heap.objs.size,l],b<s₂.heap.objs.size)->l≠s.heap.objs.size->Q (.ref s.heap.objs.size) s₂) :
 wpAny (model prog w) A (pyIter (.ref l)) Q E s:=by
 have hlt:l<s.heap.objs.size:=by obtain⟨_,e,_⟩:=hl;exact Heap.lt_size e
 refine wpAny_pyIter_tuple hl (h _ rfl ⟨⟨_,Heap.get?_push_size _ rfl,rfl,rfl⟩,hl.push _⟩ (λb hb => ?_) (Nat.ne_of_lt hlt));show b<(s.heap.push _).objs.size;rw [Heap.size_push];rcases List.mem_cons.mp hb with rfl|hb
 · exact Nat.lt_succ_self _
 · rcases List.mem_cons.mp hb with rfl|hb
   · exact Nat.lt_succ_of_lt hlt
   · cases hb
theorem ZaI {h':Heap} (hk:∀b o,b∉[s.heap.objs.size]->(s.heap.push { cls := .type "tuple_iterator",data := .fields #[.ref l,.int 0 0] }).get? b=some o->h'.get? b=some o) :
 ∀b o,s.heap.get? b=some o->h'.get? b=some o:=λb o e=>by
 refine hk b o (λhm => ?_) (Heap.get?_push_of_some _ e);rcases List.mem_cons.mp hm with e1|hm
 · exact absurd (e1▸Heap.lt_size e) (Nat.lt_irrefl _)
 · cases hm
theorem ZdI {Q:Value->Shared->Prop} (hh:A.handled=none) (hl:s.heap.IsTuple l (intItems xs)) (hne:0<xs.size)
 (h:∀v h' tk,(intItems xs)[argBest (λi j=>decide (numAt xs i>numAt xs j)) (xs.size-1)]? = some v->(∀b o,s.heap.get? b=some o->h'.get? b=some o)->Q v { s with heap:=h',toks:=tk }) :
 wpAny (model prog w) A (call (.builtin "max") [.ref l]) Q E s:=by
 refine call_max_walk (Zah hl λs₂ e st hfp hlI => ?_);subst e;refine⟨_,_,_,_,_,_,_,rfl,Walks.tuple (A:=A.in1) hh _ l hlI (intItems xs),st,hfp,by simpa [intItems]using hne,CmpOf.ints_gt (numAt xs) (λ_ _=>intItems_at),λv h' tk hP hk => ?_⟩;exact h v h' tk (by simpa [intItems]using hP) (ZaI hk)
theorem ZdJ {Q:Value->Shared->Prop} (hh:A.handled=none) (hl:s.heap.IsTuple l (intItems xs)) (hne:0<xs.size)
 (h:∀v h' tk,(intItems xs)[argBest (λi j=>decide (numAt xs i<numAt xs j)) (xs.size-1)]? = some v->(∀b o,s.heap.get? b=some o->h'.get? b=some o)->Q v { s with heap:=h',toks:=tk }) :
 wpAny (model prog w) A (call (.builtin "min") [.ref l]) Q E s:=by
 refine call_min_walk (Zah hl λs₂ e st hfp hlI => ?_);subst e;refine⟨_,_,_,_,_,_,_,rfl,Walks.tuple (A:=A.in1) hh _ l hlI (intItems xs),st,hfp,by simpa [intItems]using hne,CmpOf.ints_lt (numAt xs) (λ_ _=>intItems_at),λv h' tk hP hk => ?_⟩;exact h v h' tk (by simpa [intItems]using hP) (ZaI hk)
end
def ZiQ(K:PySem.W.Frag):List V->Hp->VK->Prop:=λxs H Q=>∃(p:Addr) (ns:List Int),xs=[.ref p]/\SqT K H p (ns.map V.int)/\0<ns.length/\Q (.int (V4 ns)) H
def ZiR(K:PySem.W.Frag):List V->Hp->VK->Prop:=λxs H Q=>∃(p:Addr) (ns:List Int),xs=[.ref p]/\SqT K H p (ns.map V.int)/\0<ns.length/\Q (.int (V5 ns)) H
def ZiS(K:PySem.W.Frag):List V->Hp->VK->Prop:=λxs H Q=>Zg3 K xs H Q\/ZiQ K xs H Q
def ZiT(K:PySem.W.Frag):List V->Hp->VK->Prop:=λxs H Q=>Zg6 K xs H Q\/ZiR K xs H Q
section
variable{X:Cx}{K:PySem.W.Frag}{cA:Kn}
theorem Zfl(hc:X.calm=true):Ym X (.builtin "max") (ZiQ X.K):=by
 intro pins s σ H xs us Q I rs h;obtain⟨p,ns,rfl,hq,hne,q⟩:=h;obtain⟨u,rfl,rx⟩:=Y2 rs;cases rx;obtain⟨its,rv,hl,hz⟩:=I.tuple hq;have hi:=UD ns its rv;obtain⟨ys,e⟩:=hi.allInts.items
 have hns:ns=ys.toList.map (·.1):=by
  rw [<-hi.numsOf,<-nums_intItems,<-e]
 have hsz:0<ys.size:=by
  have h3:=hne;rw [hns,List.length_map,Array.length_toList]at h3;exact h3
 rw [e]at hl;refine ZdI (I.ok.hd hc) hl hsz λv h' tk hv hk => ?_
 obtain⟨t,rfl⟩:=intItems_at hv;obtain⟨h1,h2⟩:=argBest_gt (numAt ys) (ys.size-1)
 have hM:=ZbG (ns:=ns) (M:=numAt ys (argBest (λi j=>decide (numAt ys i>numAt ys j)) (ys.size-1))) (by
  rw [hns,numAt_eq];exact getD_mem (by rw [List.length_map,Array.length_toList];omega)) (λa ha=>by
  rw [hns]at ha;obtain⟨j,hj,rfl⟩:=mem_getD ha;rw [List.length_map,Array.length_toList]at hj;rw [<-numAt_eq];exact h2 j (by omega))
 exact⟨.int (V4 ns),H,I.kept hk,⟨t,by rw [hM]⟩,q⟩
theorem Zfm(hc:X.calm=true):Ym X (.builtin "min") (ZiR X.K):=by
 intro pins s σ H xs us Q I rs h;obtain⟨p,ns,rfl,hq,hne,q⟩:=h;obtain⟨u,rfl,rx⟩:=Y2 rs;cases rx;obtain⟨its,rv,hl,hz⟩:=I.tuple hq;have hi:=UD ns its rv;obtain⟨ys,e⟩:=hi.allInts.items
 have hns:ns=ys.toList.map (·.1):=by
  rw [<-hi.numsOf,<-nums_intItems,<-e]
 have hsz:0<ys.size:=by
  have h3:=hne;rw [hns,List.length_map,Array.length_toList]at h3;exact h3
 rw [e]at hl;refine ZdJ (I.ok.hd hc) hl hsz λv h' tk hv hk => ?_
 obtain⟨t,rfl⟩:=intItems_at hv;obtain⟨h1,h2⟩:=argBest_lt (numAt ys) (ys.size-1)
 have hM:=ZbH (ns:=ns) (M:=numAt ys (argBest (λi j=>decide (numAt ys i<numAt ys j)) (ys.size-1))) (by
  rw [hns,numAt_eq];exact getD_mem (by rw [List.length_map,Array.length_toList];omega)) (λa ha=>by
  rw [hns]at ha;obtain⟨j,hj,rfl⟩:=mem_getD ha;rw [List.length_map,Array.length_toList]at hj;rw [<-numAt_eq];exact h2 j (by omega))
 exact⟨.int (V5 ns),H,I.kept hk,⟨t,by rw [hM]⟩,q⟩
theorem JL(hc:X.calm=true:=by rfl)(hK:X.K=K:=by rfl):Ym X (.builtin "max") (ZiS K):=hK▸λpins s σ H xs us Q I rs h=>h.elim (Zfd hc pins s σ H xs us Q I rs) (Zfl hc pins s σ H xs us Q I rs)
theorem Q4(hc:X.calm=true:=by rfl)(hK:X.K=K:=by rfl):Ym X (.builtin "min") (ZiT K):=hK▸λpins s σ H xs us Q I rs h=>h.elim (Zfk hc pins s σ H xs us Q I rs) (Zfm hc pins s σ H xs us Q I rs)
def maxQD:List D->Option D
 | [.tup xs]=>match YV xs with
  |some ns=>if 0<ns.length then some (.int (V4 ns))else none
  |none=>none
 |ds=>maxLD ds
def minQD:List D->Option D
 | [.tup xs]=>match YV xs with
  |some ns=>if 0<ns.length then some (.int (V5 ns))else none
  |none=>none
 |ds=>minLD ds
theorem JM:Vt cA (ZiS cA.K) maxQD:=λi H ds vs d ha h e Q k=>by
 unfold maxQD at e
 split at e
 · rename_i xs
   cases hb:YV xs with
   |none=>rw [hb]at e;cases e
   |some bs=>
    rw [hb]at e;dsimp only at e
    by_cases hz:0<bs.length
    · rw [if_pos hz]at e
      cases e;obtain⟨v,t,rfl,a,ws,rfl,_,rd,l⟩:=il1 h;have ex:=UC hb;subst ex;have ev:=l.vals (by rw [List.all_map];exact List.all_eq_true.mpr λ_ _=>rfl);rw [List.map_map]at ev;subst ev;exact .inr ⟨a,bs,rfl,SqT.of rd,hz,k _ H (Same.refl H) rfl⟩
    · rw [if_neg hz]at e;cases e
 · exact .inl (ZhC i H _ vs d ha h e Q k)
theorem Q5:Vt cA (ZiT cA.K) minQD:=λi H ds vs d ha h e Q k=>by
 unfold minQD at e
 split at e
 · rename_i xs
   cases hb:YV xs with
   |none=>rw [hb]at e;cases e
   |some bs=>
    rw [hb]at e;dsimp only at e
    by_cases hz:0<bs.length
    · rw [if_pos hz]at e
      cases e;obtain⟨v,t,rfl,a,ws,rfl,_,rd,l⟩:=il1 h;have ex:=UC hb;subst ex;have ev:=l.vals (by rw [List.all_map];exact List.all_eq_true.mpr λ_ _=>rfl);rw [List.map_map]at ev;subst ev;exact .inr ⟨a,bs,rfl,SqT.of rd,hz,k _ H (Same.refl H) rfl⟩
    · rw [if_neg hz]at e;cases e
 · exact .inl (ZhP i H _ vs d ha h e Q k)
end
end DL
namespace DL
open PySem PySem.Spec L2
section
variable{cA:Kn}{G:Cn}{ow:List Nat}
def NewL(H0 H:Hp)(vs:List V):Prop:=∀v∈vs,∃b ws,v = .ref b/\H b=some (.lst ws)/\H0 b=none
theorem NewL.same{H0 H H':Hp}{vs:List V}(h:NewL H0 H vs)(s:Same H H'):NewL H0 H' vs:=λv hv=>let⟨b,ws,e,r,f⟩:=h v hv;⟨b,ws,e,s _ _ r,f⟩
def VFN(G:Cn)(ow:List Nat)(te:TE)(ε:Env->Option D):Prop:=
 ∀H0 av A σ H δ,ER G ow H0 av A σ H δ->∀d,ε δ=some d->∀Q:VK,(∀p vs xs H1,Same H H1->H1 p=none->RepL G.1 (AV av A) H1 xs vs->NewL H H1 vs->d = .lst xs->Q (.ref p) (upd H1 p (.lst vs)))->te σ H Q
theorem Zf1 {wi:TI} {g:TG} {tt:TT} {te:TE} {n:Nat} {js:List Nat} {ι:Env->Option (List D)} {γ:D->Env->Option Env} {τ:Env->Option Bool} {ε:Env->Option D}
 (hjs:js.all (λj => !ow.contains j)=true) (hi:VI G ow wi ι) (hg:VG ⟨G.1,λ_=>none⟩ [] [] g γ) (ht:VT ⟨G.1,λ_=>none⟩ [] tt τ) (he:VF ⟨G.1,λ_=>none⟩ [] te ε):VFN G ow (QP wi g tt te n js) (ZF ι γ τ ε n js):=λH0 av A σ H δ E d e Q k=>by
 unfold ZF at e;cases hι:ι δ with
 |none=>rw [hι]at e;cases e
 |some xs=>
  rw [hι]at e;dsimp only at e;cases hc:YB γ τ ε (YO n δ js) xs with
  |none=>rw [hc]at e;cases e
  |some full=>
   rw [hc]at e;dsimp only at e
   by_cases hz:full.length<=sizeLine
   · rw [if_pos hz]at e
     have ed:D.lst full=d:=Option.some.inj e;refine hi H0 av A σ H δ E xs hι _ λJ H1 s1 W => ?_
     have E1:=E.mono s1
     refine⟨λi m ys H'=>m=xs.length-i/\i<=xs.length/\Same H1 H'/\NewL H H' ys/\∃done rest,RepL G.1 (AV av A) H' done ys/\YB γ τ ε (YO n δ js) (xs.drop i)=some rest/\done++rest=full,
      ⟨xs.length,by simp,Nat.zero_le _,Same.refl _,(λv hv=>by cases hv),[],full,.nil,hc,rfl⟩,?_⟩
     rintro i m ys H' ⟨rfl,hle,s',nw,done,rest,rl,hr,hf⟩
     have E':=E1.mono s';have sc:Same (DL.cut A H1) H':=λb o z=>s' b o (JA z).1
     obtain⟨w1,w2,w3⟩:=W H' sc
     by_cases hlt:i<xs.length
     · refine .inr ⟨w1 i hlt,λv H2 y => ?_⟩
       have hx:xs[i]? = some xs[i]:=List.getElem?_eq_getElem hlt;obtain⟨s2,rep⟩:=w2 i _ v H2 hx y;have rep':Rep G.1 (AV av A) H2 xs[i] v:=rep _ E'.avl λb z => .inl z
       have E2:=E'.mono s2;have EB:ER ⟨G.1,λ_=>none⟩ [] H2 (AV av A) (λ_=>none) (L2.blk n σ js) H2 (YO n δ js):=E2.blk n js hjs
       have triv:∀(A':Nat->Option Addr){σ':L2.St}{H3:Hp}{δ':Env},ER ⟨G.1,λ_=>none⟩ [] H2 (AV av A) A' σ' H3 δ'->∀b,AV (AV av A) A' b ↔ AV av A b:=λA' {σ' H3 δ'} E3 b=>by
        constructor
        · rintro(z|⟨j,z⟩)
          · exact z
          · have:=E3.dom j (by rw [z];exact λz=>by cases z)
            cases this
        · exact λz => .inl z
       rw [List.drop_eq_getElem_cons hlt]at hr;unfold YB at hr;cases hγ:γ xs[i] (YO n δ js)with
       |none=>rw [hγ]at hr;cases hr
       |some δ1=>
        rw [hγ]at hr;dsimp only at hr;refine hg _ _ _ _ H2 _ EB _ v (rep'.av λb z => .inl ((triv _ EB b).mp z)) δ1 hγ _ λA3 σ3 H3 s3 E3 => ?_
        cases hτ:τ δ1 with
        |none=>rw [hτ]at hr;cases hr
        |some c=>
         rw [hτ]at hr;refine ht _ _ A3 σ3 H3 δ1 E3 c hτ _ λH4 s4 => ?_
         have E4:=E3.mono s4;have s24:Same H' H4:=(s2.trans s3).trans s4;cases c with
         |false=>
          exact Vk ⟨xs.length-(i+1),by omega,rfl,hlt,s'.trans s24,nw.same s24,done,rest,rl.same s24,hr,hf⟩
         |true=>
          dsimp only at hr;cases hε:ε δ1 with
          |none=>rw [hε]at hr;cases hr
          |some yd=>
           rw [hε]at hr;dsimp only at hr;cases hr':YB γ τ ε (YO n δ js) (xs.drop (i+1))with
           |none=>rw [hr']at hr;cases hr
           |some rest'=>
            rw [hr']at hr;have hrr:yd::rest'=rest:=Option.some.inj hr;subst hrr;refine Vl (he _ _ A3 σ3 H4 δ1 E4 yd hε _ λp ws ds H5 s5 hp r5 ey => ?_);subst ey;have s45:Same H4 (upd H5 p (.lst ws)):=s5.trans (ZW hp);have sall:Same H' (upd H5 p (.lst ws)):=s24.trans s45;have hH:H p=none:=(s1.trans (s'.trans (s24.trans s5))).free hp;have hnp:¬AV av A p:=λz=>(E.avl p z) hH
            refine⟨?_,xs.length-(i+1),by omega,rfl,hlt,s'.trans sall,?_,done++[.lst ds],rest',(rl.same sall).append (.cons ?_ .nil),hr',by rw [<-hf];simp⟩
            · have:=congrArg List.length hf
              rw [List.length_append,List.length_cons]at this;have:=rl.length;omega
            · intro v hv
              rcases List.mem_append.mp hv with z|z
              · exact nw.same sall v z
              · rw [List.mem_singleton.mp z]
                exact⟨p,ws,rfl,ZO,hH⟩
            · exact⟨p,ws,rfl,λz=>absurd z hnp,SqL.of ZO,(r5.av λb z => .inl ((triv _ E4 b).mpr z)).same (ZW hp)⟩
     · have ei:i=xs.length:=by omega
       subst ei;rw [List.drop_length]at hr;cases hr;refine .inl ⟨w3 _ (Nat.le_refl _),λp hp=>k p ys full H' (s1.trans s') hp (by rw [<-hf,List.append_nil];exact rl) nw ed.symm⟩
   · rw [if_neg hz]at e;cases e
mutual
theorem Rep.kind{av:Addr->Prop}{H H':Hp}:∀{d:D}{v:V},frz d=true->(∀b o,H b=some o->(∀vs,o ≠ .lst vs)->H' b=some o)->Rep cA av H d v->Rep cA av H' d v
 | .non,_,_,_,h=>h
 | .bl _,_,_,_,h=>h
 | .int _,_,_,_,h=>h
 | .str _,_,_,_,h=>h
 | .lst xs,v,hf,k,h=>by cases hf
 | .tup xs,v,hf,k,h=>by
  unfold DL.frz at hf;unfold Rep at h ⊢;obtain⟨a,vs,e,n,r,l⟩:=h;exact⟨a,vs,e,n,k _ _ r (λ_ z=>by cases z),RepL.kind hf k l⟩
 | .obj c ks xs,v,hf,k,h=>by
  unfold DL.frz at hf;unfold Rep at h ⊢;obtain⟨a,dx,vs,e,n,r,z,l⟩:=h;exact⟨a,dx,vs,e,n,k _ _ r (λ_ z=>by cases z),z,RepL.kind hf k l⟩
 | .dct ks xs,v,hf,k,h=>by cases hf
 | .dtt ks xs,v,hf,k,h=>by cases hf
theorem RepL.kind{av:Addr->Prop}{H H':Hp}:∀{xs:List D}{vs:List V},frzL xs=true->(∀b o,H b=some o->(∀vs,o ≠ .lst vs)->H' b=some o)->RepL cA av H xs vs->RepL cA av H' xs vs
 | [],_,_,_,h=>h
 |x::xs,vs,hf,k,h=>by
  unfold DL.frzL at hf;rw [Bool.and_eq_true]at hf;unfold RepL at h ⊢;obtain⟨v,r,e,h1,h2⟩:=h;exact⟨v,r,e,Rep.kind hf.1 k h1,RepL.kind hf.2 k h2⟩
end
structure Turned(H0 H H':Hp)(S:Addr->Prop):Prop where
 else_:∀b,¬S b->H' b=H b
 lst:∀b,S b->∃ws,H' b=some (.lst ws)
 old:∀b,S b->∃ws,H b=some (.lst ws)
 new:∀b,S b->H0 b=none
theorem Turned.kind{H0 H H':Hp}{S:Addr->Prop}(T:Turned H0 H H' S):∀b o,H b=some o->(∀vs,o ≠ .lst vs)->H' b=some o:=λb o e n=>by
 have hs:¬S b:=λz=>by
  obtain⟨ws,w⟩:=T.old b z;rw [w]at e;cases e;exact n ws rfl
 rw [T.else_ b hs];exact e
theorem Turned.same{H0 H H':Hp}{S:Addr->Prop}(T:Turned H0 H H' S)(s:Same H0 H):Same H0 H':=λb o e=>by
 have hs:¬S b:=λz=>by rw [T.new b z]at e;cases e
 rw [T.else_ b hs];exact s b o e
theorem Turned.clear{H0 H H':Hp}{S:Addr->Prop}{b:Addr}(T:Turned H0 H H' S)(hb:S b):Turned H0 H (upd H' b (.lst [])) S:=
 ⟨λc hc=>by rw [Zz (λz=>hc (by rw [z];exact hb))];exact T.else_ c hc,λc hc=>by
   by_cases e:c=b
   · subst e;exact⟨[],ZO⟩
   · rw [Zz e];exact T.lst c hc,T.old,T.new⟩
theorem Za4 {K:PySem.W.Frag} {H0 H:Hp} {S:Addr->Prop} {a:Addr} {vs:List V} {j:Nat} {σ:L2.St} {te:TE} {De:Ends} {H1:Hp} (hj:j<σ.length)
 (hte:∀Q:VK,Q (.ref a) H1->te σ H1 Q) (T:Turned H0 H H1 S) (ha:¬S a) (hl:H a=some (.lst vs)) (hv:∀v∈vs,∃b,v = .ref b/\S b)
 (k:∀σ' H',(∀i,i≠j->σ'[i]? = σ[i]?)->σ'.length=σ.length->Turned H0 H H' S->De.nx σ' H'):VW (VZ K te) (Y8 j) (Uv (Ux K "list" rClear (YR j))) De σ H1:=by
 refine hte _ (.inl ⟨a,vs,rfl,SqL.of (by rw [T.else_ a ha];exact hl),?_⟩);refine⟨λi m σ' H'=>m=vs.length-i/\i<=vs.length/\(∀n,n≠j->σ'[n]? = σ[n]?)/\σ'.length=σ.length/\Turned H0 H H' S,⟨vs.length,by simp,Nat.zero_le _,λ_ _=>rfl,rfl,T⟩,?_⟩
 rintro i m σ' H' ⟨rfl,hle,h1,h2,T'⟩
 have sq:SqL K H' a vs:=SqL.of (by rw [T'.else_ a ha];exact hl)
 by_cases hlt:i<vs.length
 · refine .inr ⟨⟨vs,vs[i],sq,List.getElem?_eq_getElem hlt⟩,λσ2 H2=>(∀n,n≠j->σ2[n]? = σ[n]?)/\σ2.length=σ.length/\Turned H0 H H2 S,λσ2 H2 ⟨g1,g2,g3⟩=>⟨vs.length-(i+1),by omega,rfl,hlt,g1,g2,g3⟩,λx H2 y => ?_⟩
   obtain⟨rfl,y⟩:=y;have hx:=y vs sq;rw [List.getElem?_eq_getElem hlt]at hx;have hx:vs[i]=x:=Option.some.inj hx;obtain⟨b,e,hb⟩:=hv vs[i] (List.getElem_mem hlt);rw [e]at hx;subst hx;obtain⟨ws,hw⟩:=T'.lst b hb
   have hjj:(σ'.set j (some (V.ref b)))[j]? = some (some (.ref b)):=by
    rw [List.getElem?_set_self (by rw [h2];exact hj)]
   refine⟨.ref b,hjj,.inl ⟨rfl,ws,SqL.of hw⟩,b,ws,rfl,rfl,hw,?_⟩;exact⟨λn hn=>by rw [List.getElem?_set_ne (Ne.symm hn)];exact h1 n hn,by rw [List.length_set];exact h2,T'.clear hb⟩
 · have ei:i=vs.length:=by omega
   subst ei;exact .inl ⟨⟨vs,sq,Nat.le_refl _⟩,k σ' H' h1 h2 T'⟩
end
end DL
namespace DL
open PySem PySem.Spec L2
section
variable{cA:Kn}{G:Cn}{owN owB owC:List Nat}
theorem Turned.refl{H0 H:Hp}{S:Addr->Prop}(h1:∀b,S b->∃ws,H b=some (.lst ws))(h2:∀b,S b->H0 b=none):Turned H0 H H S:=⟨λ_ _=>rfl,h1,h1,h2⟩
theorem Turned.more{H0 H H':Hp}{S S':Addr->Prop}(T:Turned H0 H H' S)(hs:∀b,S b->S' b)(h1:∀b,S' b->∃ws,H b=some (.lst ws))(h2:∀b,S' b->H0 b=none):Turned H0 H H' S':=
 ⟨λb hb=>T.else_ b λz=>hb (hs b z),λb hb=>by
   by_cases z:S b
   · exact T.lst b z
   · rw [T.else_ b z];exact h1 b hb,h1,h2⟩
def JN(ip iw ir iq:Nat)(ε0 ε1 ε2 εm:Env->Option D)(δ:Env):Option Out:=match ε0 δ,ε1 δ,ε2 δ with
 |some d0,some d1,some d2=>match εm (δ.set ip (some (.lst [d0,d1,d2])))with
  |some dw=>if frz dw=true/\ip<δ.length/\iw<δ.length/\ir<δ.length/\iq<δ.length then some (.rt dw)else none
  |none=>none
 |_,_,_=>none
theorem Zfn {t0 t1 t2 tm:TE} {ε0 ε1 ε2 εm:Env->Option D} (ip iw ir iq:Nat) (hpw:ip≠iw) (hpr:ip≠ir) (hpq:ip≠iq) (hwr:iw≠ir) (hwq:iw≠iq) (hn:G.2 ip=none)
 (h0:VF G [] t0 ε0) (h1:VF G [] t1 ε1) (h2:VFN G [] t2 ε2) (hm:VE G [] tm .cl εm) :
 VS G [] owN owB owC (Uu (X3 (Zki (Xp t0 (Xp t1 (Xp t2 tNil)))) (Y8 ip)) (Uu (X3 tm (Y8 iw)) (Uu (VW (VZ G.1.K (tOp (UT G.1.K) (YR ip) (tC (.int 2)))) (Y8 ir) (Uv (Ux G.1.K "list" rClear (YR ir))))
  (Uu (VW (VZ G.1.K (YR ip)) (Y8 iq) (Uv (Ux G.1.K "list" rClear (YR iq)))) (Zkc (YR iw)))))) (JN ip iw ir iq ε0 ε1 ε2 εm):=λH0 av A σ H δ E o e De k=>by
 unfold JN at e
 split at e
 case h_2=>cases e
 rename_i d0 d1 d2 e0 e1 e2;cases em:εm (δ.set ip (some (.lst [d0,d1,d2])))with
 |none=>rw [em]at e;cases e
 |some dw=>
  rw [em]at e;dsimp only at e
  by_cases hc:frz dw=true/\ip<δ.length/\iw<δ.length/\ir<δ.length/\iq<δ.length
  case neg=>rw [if_neg hc]at e;cases e
  rw [if_pos hc]at e;cases e;obtain⟨hf,l1,l2,l3,l4⟩:=hc;have hlen:=E.len;have nav:∀b,H b=none->¬AV av A b:=λb hb z=>E.avl b z hb
  refine h0 H0 av A σ H δ E d0 e0 _ λp0 vs0 xs0 H1 s1 f0 r0 ed0 => ?_
  have sA:Same H (upd H1 p0 (.lst vs0)):=s1.trans (ZW f0);have EA:=E.mono sA;refine h1 H0 av A σ _ δ EA d1 e1 _ λp1 vs1 xs1 H2 s2 f1 r1 ed1 => ?_
  have sB:Same (upd H1 p0 (.lst vs0)) (upd H2 p1 (.lst vs1)):=s2.trans (ZW f1);have EB:=EA.mono sB;refine h2 H0 av A σ _ δ EB d2 e2 _ λp2 vs2 xs2 H3 s3 f2 r2 nw ed2 => ?_
  have sC:Same (upd H2 p1 (.lst vs1)) (upd H3 p2 (.lst vs2)):=s3.trans (ZW f2);refine⟨by show 3<=sizeLine;rw [PySem.sizeLine_eq];omega,λp fp => ?_⟩;have sD:Same (upd H3 p2 (.lst vs2)) (upd (upd H3 p2 (.lst vs2)) p (.lst [.ref p0,.ref p1,.ref p2])):=ZW fp;have q0:upd (upd H3 p2 (.lst vs2)) p (.lst [V.ref p0,.ref p1,.ref p2]) p0=some (.lst vs0):=sD _ _ (sC _ _ (sB _ _ ZO))
  have q1:upd (upd H3 p2 (.lst vs2)) p (.lst [V.ref p0,.ref p1,.ref p2]) p1=some (.lst vs1):=sD _ _ (sC _ _ ZO);have q2:upd (upd H3 p2 (.lst vs2)) p (.lst [V.ref p0,.ref p1,.ref p2]) p2=some (.lst vs2):=sD _ _ ZO;have n0:H p0=none:=s1.free f0;have n1:H p1=none:=sA.free (s2.free f1);have n2:H p2=none:=sA.free (sB.free (s3.free f2));have np:H p=none:=sA.free (sB.free (sC.free fp))
  have sAll:Same H (upd (upd H3 p2 (.lst vs2)) p (.lst [V.ref p0,.ref p1,.ref p2])):=sA.trans (sB.trans (sC.trans sD));have sAD:Same (upd H1 p0 (.lst vs0)) _:=sB.trans (sC.trans sD);subst ed0;subst ed1;subst ed2;have R0:Rep G.1 (AV av A) (upd (upd H3 p2 (.lst vs2)) p (.lst [V.ref p0,.ref p1,.ref p2])) (.lst xs0) (.ref p0):=⟨p0,vs0,rfl,λz=>absurd z (nav _ n0),SqL.of q0,r0.same ((ZW f0).trans sAD)⟩
  have R1:Rep G.1 (AV av A) (upd (upd H3 p2 (.lst vs2)) p (.lst [V.ref p0,.ref p1,.ref p2])) (.lst xs1) (.ref p1):=⟨p1,vs1,rfl,λz=>absurd z (nav _ n1),SqL.of q1,r1.same ((ZW f1).trans (sC.trans sD))⟩
  have R2:Rep G.1 (AV av A) (upd (upd H3 p2 (.lst vs2)) p (.lst [V.ref p0,.ref p1,.ref p2])) (.lst xs2) (.ref p2):=⟨p2,vs2,rfl,λz=>absurd z (nav _ n2),SqL.of q2,r2.same ((ZW f2).trans sD)⟩
  have RP:Rep G.1 (AV av A) (upd (upd H3 p2 (.lst vs2)) p (.lst [V.ref p0,.ref p1,.ref p2])) (.lst [.lst xs0,.lst xs1,.lst xs2]) (.ref p):=⟨p,_,rfl,λz=>absurd z (nav _ np),SqL.of ZO,.cons R0 (.cons R1 (.cons R2 .nil))⟩
  have ED:=(E.mono sAll).set (ow1:=[]) RP (λj=>by simp) hn;refine hm H0 av _ _ _ _ ED dw em _ λvw HE sE rw_ => ?_
  have rw_:=(RepT.r rw_).av (av':=av) λb z => .inl (.inl z)
  have g1:((σ.set ip (some (V.ref p))).set iw (some vw))[ip]? = some (some (.ref p)):=by
   rw [List.getElem?_set_ne (Ne.symm hpw),List.getElem?_set_self (by rw [hlen];exact l1)]
  have g2:((σ.set ip (some (V.ref p))).set iw (some vw))[iw]? = some (some vw):=by
   rw [List.getElem?_set_self (by rw [List.length_set,hlen];exact l2)]
  have gl:((σ.set ip (some (V.ref p))).set iw (some vw)).length=δ.length:=by rw [List.length_set,List.length_set,hlen]
  have new3:∀b,V.ref b∈vs2->∃ws,H3 b=some (.lst ws)/\H b=none:=λb hb=>by
   obtain⟨b',ws,e',g,f⟩:=nw _ hb;cases e';exact⟨ws,g,sA.free (sB.free f)⟩
  have h0n:∀b,H b=none->H0 b=none:=λb hb=>E.same.free hb
  have hp2:V.ref p2∉vs2:=λz=>by
   obtain⟨ws,g,_⟩:=new3 _ z;rw [f2]at g;cases g
  have hHEp:HE p=some (.lst [.ref p0,.ref p1,.ref p2]):=sE _ _ ZO
  have lst3:∀b,V.ref b∈vs2->∃ws,HE b=some (.lst ws):=λb hb=>by
   obtain⟨ws,g,_⟩:=new3 _ hb;exact⟨ws,sE _ _ (sD _ _ ((ZW f2) _ _ g))⟩
  have new0:∀b,V.ref b∈vs2->H0 b=none:=λb hb=>by
   obtain⟨_,_,f⟩:=new3 _ hb;exact h0n b f
  have lst4:∀b,(b=p0\/b=p1\/b=p2\/V.ref b∈vs2)->∃ws,HE b=some (.lst ws):=λb hb=>by
   rcases hb with rfl|rfl|rfl|z
   · exact⟨_,sE _ _ q0⟩
   · exact⟨_,sE _ _ q1⟩
   · exact⟨_,sE _ _ q2⟩
   · exact lst3 b z
  have new4:∀b,(b=p0\/b=p1\/b=p2\/V.ref b∈vs2)->H0 b=none:=λb hb=>by
   rcases hb with rfl|rfl|rfl|z
   · exact h0n _ n0
   · exact h0n _ n1
   · exact h0n _ n2
   · exact new0 b z
  have hpS:¬(p=p0\/p=p1\/p=p2\/V.ref p∈vs2):=λz=>by
   rcases z with z|z|z|z
   · rw [z,sC _ _ (sB _ _ ZO)]at fp;cases fp
   · rw [z,sC _ _ ZO]at fp;cases fp
   · rw [z,ZO]at fp;cases fp
   · obtain⟨ws,g,_⟩:=new3 _ z
     rw [(ZW f2) _ _ g]at fp;cases fp
  have sHE:Same H0 HE:=E.same.trans (sAll.trans sE);show VW (VZ G.1.K (tOp (UT G.1.K) (YR ip) (tC (.int 2)))) (Y8 ir) (Uv (Ux G.1.K "list" rClear (YR ir))) _ ((σ.set ip (some (V.ref p))).set iw (some vw)) HE;refine Za4 (H0:=H0) (H:=HE) (S:=λb=>V.ref b∈vs2) (a:=p2) (vs:=vs2) (by rw [gl];exact l3) (λQ hQ => ?_) (Turned.refl lst3 new0) hp2 (sE _ _ q2) (λv hv => ?_) λσ3 H3' g3 g3l T3 => ?_
  · exact⟨.ref p,g1,.inl ⟨p,_,2,.ref p2,rfl,rfl,SqL.of hHEp,rfl,hQ⟩⟩
  · obtain⟨b,ws,e',_,_⟩:=nw v hv
    exact⟨b,e',by rw [<-e'];exact hv⟩
  · have T4:=T3.more (S':=λb=>b=p0\/b=p1\/b=p2\/V.ref b∈vs2) (λb z => .inr (.inr (.inr z))) lst4 new4
    show VW (VZ G.1.K (YR ip)) (Y8 iq) (Uv (Ux G.1.K "list" rClear (YR iq))) _ σ3 H3';refine Za4 (H0:=H0) (H:=HE) (a:=p) (vs:=[.ref p0,.ref p1,.ref p2]) (by rw [g3l,gl];exact l4) (λQ hQ=>⟨.ref p,by rw [g3 ip hpr];exact g1,hQ⟩) T4 hpS hHEp (λv hv => ?_) λσ4 H4' g4 g4l T5 => ?_
    · simp only [List.mem_cons,List.mem_nil_iff,or_false]at hv
      rcases hv with rfl|rfl|rfl
      · exact⟨_,rfl,.inl rfl⟩
      · exact⟨_,rfl,.inr (.inl rfl)⟩
      · exact⟨_,rfl,.inr (.inr (.inl rfl))⟩
    · exact⟨vw,by rw [g4 iw hwq,g3 iw hwr];exact g2,k vw H4' (T5.same sHE) (Rep.kind hf T5.kind rw_)⟩
end
end DL
namespace PySem
open Sem (wp)
open AutoSeq1 (wpAny_loadPart')
theorem Zad(l:Addr)(items:Array Value)(n:Nat)(dct:Option Addr)(sl:Array (Option Value)) :
 Meets (Builtin.«enumerate.__new__» ⟨[.type "enumerate",.ref l],[]⟩) (λ_ R s=>s.heap.get? l=some { cls := .type "tuple",dict:=dct,data := .seq items n,slots:=sl } /\
  R (.ok (.ret (.ref (s.heap.push { cls := .type "tuple_iterator",data := .fields #[.ref l,.int 0 0] }).objs.size)))
   { s with heap:=(s.heap.push { cls := .type "tuple_iterator",data := .fields #[.ref l,.int 0 0] }).push { cls := .type "enumerate",data := .fields #[.none,.bool false,.ref s.heap.objs.size,rawInt 0,.none,.none] } }):=
 .of_wp λprog w A R s h=>by
  obtain⟨hp,g,d,tk,os⟩:=s;obtain⟨hl,h⟩:=h;have hsub:=sub_enumerate;have hL:Heap.IsTuple (Shared.heap ⟨hp,g,d,tk,os⟩) l items:=⟨_,hl,rfl,n,rfl⟩
  wp_walk using wpAny_loadPart' hl
  refine wpAny_stack_any λst=>wpAny_pure ?_
  split
  · rename_i c _ _ _ _ _
    cases(c == Value.type "enumerate")
    · wp_walk using wpAny_loadPart' hl,wpAny_pyIter_tuple hL
      exact⟨_,rfl,h⟩
    · wp_walk using wpAny_loadPart' hl,wpAny_pyIter_tuple hL
      exact⟨_,rfl,h⟩
  · wp_walk using wpAny_loadPart' hl,wpAny_pyIter_tuple hL
    exact⟨_,rfl,h⟩
section
variable{prog:Program}{w:World}{A:Around}{E:Value->Shared->Prop}{s:Shared}
theorem Zan {l:Addr} {items:Array Value} {Q:Value->Shared->Prop} (hL:s.heap.IsTuple l items)
 (h:∀h',IsEnum h' (s.heap.objs.size+1) s.heap.objs.size 0 .none->h'.IsTupleIter s.heap.objs.size l 0->(∀b o,s.heap.get? b=some o->h'.get? b=some o)->Q (.ref (s.heap.objs.size+1)) { s with heap:=h' }) :
 wpAny (model prog w) A (call (.type "enumerate") [.ref l]) Q E s:=by
 obtain⟨⟨c,dct,dt,sl⟩,hl,hc,n,hd⟩:=hL;replace hc:c = .type "tuple" := hc;replace hd:dt = .seq items n:=hd;subst hc hd;refine callType_new F.called_enumerate (by decide) (F.typeCall_enumerate_1 _) (F.newCall_enumerate_1 _) (λobj=>F.args_object_init_2 obj _) F.entry_enumerate_new (Zad l items n dct sl) ⟨hl,?_⟩;have hz:(s.heap.push { cls := .type "tuple_iterator",data := .fields #[.ref l,.int 0 0] }).objs.size=s.heap.objs.size+1:=Heap.size_push ..
 show _/\_;rw [hz]
 have he:IsEnum ((s.heap.push { cls := .type "tuple_iterator",data := .fields #[.ref l,.int 0 0] }).push { cls := .type "enumerate",data := .fields #[.none,.bool false,.ref s.heap.objs.size,rawInt 0,.none,.none] }) (s.heap.objs.size+1) s.heap.objs.size 0 .none:=by
  have:=Heap.get?_push_size (s.heap.push { cls := .type "tuple_iterator",data := .fields #[.ref l,.int 0 0] }) (o:={ cls := .type "enumerate",data := .fields #[.none,.bool false,.ref s.heap.objs.size,rawInt 0,.none,.none] }) rfl;rw [hz]at this;exact this
 exact⟨⟨_,he,rfl⟩,h _ he ⟨_,Heap.get?_push_of_some _ (Heap.get?_push_size _ rfl),rfl,rfl⟩ λb o x=>Heap.get?_push_of_some _ (Heap.get?_push_of_some _ x)⟩
end
end PySem
namespace L2
open PySem PySem.Spec PyProof.Rows
def Zg7(K:PySem.W.Frag)(n0:Nat)(l:Addr):It:=
 ⟨λi H=>∃xs x,SqT K H l xs/\xs[i]? = some x,λi H v H'=>∃x p,(∀xs,SqT K H l xs->xs[i]? = some x)/\H p=none/\v = .ref p/\H'=upd H p (.tup [.int ((n0+i:Nat):Int),x]),λi H=>∃xs,SqT K H l xs/\xs.length<=i⟩
theorem Zf2{prog:Program}{w:World}{A:Around}(hh:A.handled=none)(it l:Addr)(hne:l≠it)(its:Array Value)(n0:Nat) :
 Draws prog w A it [it,l] (n0+its.size) (λi v=>∃j,i=n0+j/\its[j]? = some v) (λi h=>∃j,i=n0+j/\h.IsTupleIter it l j/\h.IsTuple l its) where
 live:=λi h ⟨j,_,st,_⟩=>let⟨o,ho,_⟩:=st;⟨o,ho⟩
 frame:=λi h h' ⟨j,e,s1,s2⟩ hk=>⟨j,e,s1.at λo q=>hk it (by simp) o q,s2.at λo q=>hk l (by simp) o q⟩
 item:=λi s Q E hi st hQ=>by
  obtain⟨j,rfl,s1,s2⟩:=st;have hj:j<its.size:=by omega
  refine Zcy s1 s2 (x:=its[j]) (by simp [hj]) λh' st' sb => ?_
  exact hQ _ h' s.toks ⟨j,rfl,by simp [hj]⟩ ⟨j+1,by omega,st',s2.extBut sb.extBut hne⟩ sb
 done:=λs Q E st hE=>by
  obtain⟨j,e,s1,s2⟩:=st;exact ZaU hh s1 s2 (by rw [show j=its.size by omega];simp) hE
theorem Zfo{prog:Program}{w:World}{A:Around}(hh:A.handled=none)(it l:Addr)(its:Array Value)(n j:Nat)(hj:its.size<=j) :
 Draws prog w A it [it,l] n (λ_ _=>False) (λi h=>i=n/\h.IsTupleIter it l j/\h.IsTuple l its) where
 live:=λi h ⟨_,st,_⟩=>let⟨o,ho,_⟩:=st;⟨o,ho⟩
 frame:=λi h h' ⟨e,s1,s2⟩ hk=>⟨e,s1.at λo q=>hk it (by simp) o q,s2.at λo q=>hk l (by simp) o q⟩
 item:=λi s Q E hi st hQ=>absurd st.1 (by omega)
 done:=λs Q E st hE=>ZaU hh st.2.1 st.2.2 (by simp [hj]) hE
theorem ZdK{P:Program}{w:World}{K:PySem.W.Frag}{elts:List Expr}{x1:Nat}{tpos:Pos}(e it l:Addr)(hne:e≠it)(n0:Nat) :
 Turn P w K (.Tuple elts x1 tpos) (Zg7 K n0 l) [e,it] e (λi h=>(∃old,IsEnum h e it ((n0+i:Nat):Int) old)/\h.IsTupleIter it l i) where
 mem:=by simp
 obj:=λi h st b hb=>by
  obtain⟨⟨old,he⟩,o,ho,hc,hd⟩:=st;simp at hb;rcases hb with rfl|rfl
  · exact ⟨_, he, fun v z => by
     have z':Data.fields _=Data.cell v:=z;cases z'⟩
  · exact⟨o,ho,λv z=>by rw [hd]at z;cases z⟩
 keep:=λi h h' st k=>by
  obtain⟨⟨old,he⟩,s1⟩:=st;exact⟨⟨old,k e (by simp) _ he⟩,s1.at λo q=>k it (by simp) o q⟩
 item:=by
  intro X hP hw hK hc i pins s σ H E I hf st hg;subst hP hw hK;obtain⟨⟨old,he⟩,st⟩:=st;obtain⟨xs,x,hq,hx⟩:=hg;obtain⟨its,rv,p,hz⟩:=I.tuple hq;obtain⟨u,hu,ru⟩:=rv.get hx;have hi:i<its.length:=(List.getElem?_eq_some_iff.mp hu).1;obtain⟨e0,e1,e2,e3,e4,e5⟩:=hf e (by simp);obtain⟨f0,f1,f2,f3,f4,f5⟩:=hf it (by simp)
  have hLe:l≠e:=by
   rintro rfl
   obtain⟨o,ho,hcl,_⟩:=p;have he':s.heap.get? l=some _:=he;rw [he']at ho;cases ho;exact absurd (show Value.type "enumerate" = Value.type "tuple" from hcl) (by decide)
  have hLi:l≠it:=by
   rintro rfl
   obtain⟨o,ho,hcl,_⟩:=p;obtain⟨o',ho',hcl',_⟩:=id st;rw [ho]at ho';cases ho';rw [hcl]at hcl';exact absurd hcl' (by decide)
  have D:=Zf2 (prog:=X.prog) (w:=X.w) (A:=X.A.in1) (I.ok.hd hc) it l hLi its.toArray n0;refine wpAny_pyNext_enum_itemD D he ⟨i,rfl,st,p⟩ (by simp;omega) hne (by simp [hne,Ne.symm hLe]) λy h' tk hP ho st' hT hsz hk => ?_
  obtain⟨j,ej,hy⟩:=hP;have ej':j=i:=by omega
  subst ej'
  have hyu:y=u:=by
   have:its[j]? = some y:=by simpa using hy
   rw [hu]at this;exact(Option.some.inj this).symm
  subst hyu;refine⟨_,rfl,wpAny_letOwnedTupleGo_enum ho λh2 he2 hs2 => ?_⟩;have hs2:Heap.SameBut e h' h2:=hs2;have hTl:e<s.heap.objs.size:=Heap.lt_size he;obtain⟨j',ej2,st'',_⟩:=st';have ej3:j'=j+1:=by omega
  subst ej3;have hT2:h2.get? s.heap.objs.size=some { cls := .type "tuple",data := .seq #[.int ((n0+j:Nat):Int) tk,y] }:=(hs2.2 _ (Nat.ne_of_gt hTl)).trans hT;have k2:∀b o,b≠e->b≠it->s.heap.get? b=some o->h2.get? b=some o:=λb o hb hb' q=>(hs2.2 b hb).trans (hk b o hb hb' q)
  have hTn:H s.heap.objs.size=none:=I.hok.fresh (Nat.le_refl _);have neT:∀b o,s.heap.get? b=some o->b≠s.heap.objs.size:=λb o q=>Nat.ne_of_lt (Heap.lt_size q)
  have I2:Inv X pins σ (upd H s.heap.objs.size (.tup [.int ((n0+j:Nat):Int),x])) { s with heap:=h2,toks:=tk+1 }:=by
   refine I.step (g':=s.gens) (d':=s.drawn) (ch:=[e,it]) (λb hb => ?_) (λb o _ _ hcb q _ => ?_) (λb o _ _ hcb q _ => ?_) (λb o hcb q n => ?_) (λb o hcb q => ?_) (λb xs q => ?_) (λb o v q => ?_) (λb ps q => ?_) (λm hm => ?_) (λb o q => ?_) I.bare
   · simp at hb
     rcases hb with rfl|rfl
     · exact⟨e3,e1,e4,e5⟩
     · exact⟨f3,f1,f4,f5⟩
   · simp at hcb
     exact k2 b o hcb.1 hcb.2 q
   · simp at hcb
     exact⟨o.slots,k2 b o hcb.1 hcb.2 q⟩
   · rw [Zz (neT b o q)]
     exact n
   · simp at hcb
     exact⟨o,k2 b o hcb.1 hcb.2 q⟩
   · rw [Zz (Yr q hTn)]
     exact q
   · rw [Zz (Yr q hTn)]
     exact q
   · exact⟨#[],by rw [Zz (Yr q hTn),q];simp⟩
   · obtain⟨o,es,ep,q,r⟩:=hm
     exact⟨o,es,ep,k2 _ o (Ne.symm e1) (Ne.symm f1) q,r⟩
   · by_cases hb:b=s.heap.objs.size
     · subst hb
       rw [ZO]at q;cases q;refine⟨by show 2<=sizeLine;decide,[.int ((n0+j:Nat):Int) tk,y],.cons ⟨_,rfl⟩ (.cons ru .nil),?_⟩;exact⟨_,hT2,rfl,⟨_,rfl⟩,rfl⟩
     · rw [Zz hb]at q
       have nn:∀(b:Addr)(o:HO),H b=some o->b≠e/\b≠it:=λb o q=>⟨λz=>(by rw [z,e0]at q;cases q),λz=>(by rw [z,f0]at q;cases q)⟩
       refine(I.hok b o q).stay (λd v hd q' => ?_) (λd q'=>by rw [Zz (Yr q' hTn)];exact q') λd xs q'=>by rw [Zz (Yr q' hTn)];exact q'
       rcases hd with rfl|hd
       · exact k2 d v (nn d o q).1 (nn d o q).2 q'
       · exact k2 d v (nn d _ hd).1 (nn d _ hd).2 q'
  have he3:IsEnum h2 e it ((n0+(j+1):Nat):Int) y:=by
   have:((n0+(j+1):Nat):Int)=((n0+j:Nat):Int)+1:=by push_cast;omega
   rw [this];exact he2
  refine⟨.ref s.heap.objs.size,_,I2,rfl,⟨x,s.heap.objs.size,λys hy=>by rw [I.tuple_inj hy hq];exact hx,hTn,rfl,rfl⟩,⟨⟨_,he3⟩,?_⟩,λb hb => ?_⟩
  · obtain⟨o,ho',r⟩:=st''
    exact⟨o,(hs2.2 it (Ne.symm hne)).trans ho',r⟩
  · simp at hb
    rcases hb with rfl|rfl
    · rw [Zz (Nat.ne_of_lt hTl)];exact e0
    · obtain⟨o,ho',_⟩:=st
      rw [Zz (neT _ o ho')];exact f0
 done:=by
  intro X hP hw hK hc i pins s σ H E I hf st hg;subst hP hw hK;obtain⟨⟨old,he⟩,st⟩:=st;obtain⟨xs,hq,hx⟩:=hg;obtain⟨its,rv,p,hz⟩:=I.tuple hq;have hl:=rv.length;obtain⟨f0,f1,f2,f3,f4,f5⟩:=hf it (by simp);have D:=Zfo (prog:=X.prog) (w:=X.w) (A:=X.A.in1) (I.ok.hd hc) it l its.toArray (n0+i) i (by simp;omega);exact wpAny_pyNext_enum_endD D he ⟨rfl,st,p⟩ λh' eb=>⟨rfl,I.turned (t':=s.toks) (λb o hb q=>eb b o hb q) f0 f1 f3 f4 f5⟩
 self:=λ_ _ _ _ _ st h=>by
  obtain⟨⟨old,he⟩,_⟩:=st;exact wpAny_pyIter_enum he h
section
variable{X:Cx}{elts:List Expr}{x1:Nat}{tpos:Pos}
def ZgG(K:PySem.W.Frag)(ta:TA):TI:=λσ H R=>ta σ H λvs H1=>∃l xs,vs=[.ref l]/\SqT K H1 l xs/\R (Zg7 K 0 l) H1
theorem Zbg {K:PySem.W.Frag} {a:Expr} {ta:TE} {po pos:Pos} (hg:Gl X "enumerate") (hm:X.mg "enumerate" = none) (ha:PE X a ta) (hs:starEach [a] X.env=[(false,eval a X.env)]:=by rfl) (hK:X.K=K:=by rfl) :
 PI X (.Tuple elts x1 tpos) (.Call (.Name "enumerate" po) [a] [] pos) (ZgG K (Xp ta tNil)):=by
 subst hK;intro pins s σ H R I h;refine Call_ (UR I hg hm boot_enumerate (PyProof.Rows.callWith_type1 (thn ((Ze ha Zk hs) pos pins s σ H _ I h) λus s1 ⟨vs,H1,I1,r1,q1⟩ => ?_) (by rw [hs];rfl) (by rfl)));obtain⟨l,xs,ev,hq,q⟩:=q1;subst ev;obtain⟨w1,rfl,rx⟩:=Y2 r1;cases rx;obtain⟨its,rv,pl,hz⟩:=I1.tuple hq;refine Zan pl λh' he st k => ?_
 refine wpAny_pyIter_enum he ?_;have I3:Inv X pins σ H1 { s1 with heap:=h' }:=I1.kept (t':=s1.toks) k;refine⟨s1.heap.objs.size+1,[s1.heap.objs.size+1,s1.heap.objs.size],_,_,H1,rfl,I3,ZdK (s1.heap.objs.size+1) s1.heap.objs.size l (Nat.succ_ne_self _) 0,⟨⟨_,he⟩,st⟩,λb hb => ?_,q⟩
 have hb':s1.heap.objs.size<=b:=by
  simp at hb;rcases hb with rfl|rfl
  · exact Nat.le_succ _
  · exact Nat.le_refl _
 exact I1.fpOk hb' (I1.hok.fresh hb')
def Zg8(K:PySem.W.Frag):List V->Hp->VK->Prop:=λxs H Q=>∃p kvs,xs=[.ref p]/\H p=some (.dK kvs)/\Q (.int kvs.length) H
theorem Zfp:Ym X (.builtin "len") (Zg8 X.K):=by
 intro pins s σ H xs us Q I rs h;obtain⟨p,kvs,rfl,hq,q⟩:=h;obtain⟨u,rfl,rx⟩:=Y2 rs;cases rx;exact ZkG I (.inl hq) λt s' I'=>⟨.int kvs.length,H,I',⟨t,rfl⟩,q⟩
theorem ZjB{K:PySem.W.Frag}(hK:X.K=K:=by rfl):Ym X (.builtin "len") (Zg8 K):=hK▸Zfp
end
end L2
namespace DL
open PySem PySem.Spec L2
section
variable{cA:Kn}{G:Cn}{ow:List Nat}
def lenKD:List D->Option D
 | [.dct ks _]=>some (.int ks.length)
 |_=>none
theorem ZhT:Vt cA (Zg8 cA.K) lenKD:=λi H ds vs d _ h e Q k=>by
 unfold lenKD at e
 split at e
 · rename_i ks xs
   cases e;obtain⟨v,t,rfl,a,ws,rfl,_,r,z,l⟩:=il1 h
   have hl:(ks.zip ws).length=ks.length:=by
    rw [List.length_zip];have:=l.length;omega
   exact⟨a,ks.zip ws,rfl,r,by rw [hl];exact k _ H (Same.refl H) rfl⟩
 · cases e
def Vc(ε:Env->Option D)(δ:Env):Option (List D):=match ε δ with
 |some (.tup xs)=>some (Yk 0 xs)
 |_=>none
theorem ZcA{iv:Addr->Prop}{H0:Hp}{a:Addr}{vs:List V}{xs:List D}{n0:Nat}(rd:SqT cA.K H0 a vs)(l:RepL cA iv H0 xs vs):Vv cA iv (Zg7 cA.K n0 a) (Yk n0 xs) H0:=λH s=>by
 have rd':SqT cA.K H a vs:=ZfY (k:=true) s rd;refine⟨λi hi => ?_,λi x v H' hx y => ?_,λi hi=>⟨vs,rd',by rw [UW]at hi;rw [<-l.length];exact hi⟩⟩
 · rw [UW]at hi
   obtain⟨v,hv,_⟩:=l.get (List.getElem?_eq_getElem hi);exact⟨vs,v,rd',hv⟩
 · obtain⟨z,p,hy,hp,rfl,rfl⟩:=y
   rw [JD]at hx;cases hxi:xs[i]? with
   |none=>rw [hxi]at hx;cases hx
   |some d=>
    rw [hxi]at hx;cases hx;obtain⟨v',hv,r⟩:=l.get hxi;rw [hy vs rd']at hv;cases hv;refine⟨ZW hp,λav' h1 h2 => ?_⟩;unfold Rep;exact⟨p,_,rfl,λz=>h1 p z hp,ZO,.cons rfl (.cons (((r.av h2).same s).same (ZW hp)) .nil)⟩
theorem Zbh{ta:TE}{ε:Env->Option D}(h:VE G ow ta .cl ε):VI G ow (ZgG G.1.K (Xp ta tNil)) (Vc ε):=λH0 av A σ H δ E xs e R k=>by
 unfold Vc at e;cases he:ε δ with
 |none=>rw [he]at e;cases e
 |some d=>
  rw [he]at e;cases d<;>first|(cases e;done)|skip
  cases e;refine h H0 av A σ H δ E _ he _ λv H1 s r => ?_
  obtain⟨a,vs,rfl,na,rd,l⟩:=r;exact⟨a,vs,rfl,SqT.of rd,k _ H1 s (ZcA (SqT.of (by rw [Vu λ⟨i,z⟩=>na (.inr ⟨i,z⟩)];exact rd)) l.cut)⟩
end
end DL
namespace DL
open PySem PySem.Spec L2
section
variable{cA:Kn}{G:Cn}{ow owB owC:List Nat}
def XJ:D->D->Option D
 | .lst a,.lst b=>addX (.lst a) (.lst b)
 |_,_=>none
theorem Q6{ta tb:TE}{a b:Env->Option D}(ha:VE G ow ta .cl a)(hb:VE G ow tb .cl b):VF G ow (tOp (QY G.1.K) ta tb) (eOp XJ a b):=λH0 av A σ H δ E d e Q k=>by
 obtain⟨x,y,ex,ey,ed⟩:=Qj e;unfold XJ at ed
 split at ed
 · rename_i xs ys
   dsimp only [addX]at ed
   by_cases hz:xs.length+ys.length<=sizeLine
   · rw [if_pos hz]at ed
     cases ed;refine ha H0 av A σ H δ E _ ex _ λv H1 s1 r1=>hb H0 av A σ H1 δ (E.mono s1) _ ey _ λw H2 s2 r2 => ?_
     obtain⟨a1,vs1,rfl,na,rd,l1⟩:=r1;obtain⟨a2,vs2,rfl,nb,rd2,l2⟩:=r2;refine .inr (.inr ⟨a1,a2,vs1,vs2,rfl,rfl,s2.seq rd,rd2,by rw [<-l1.length,<-l2.length];exact hz,λp hp=>k p _ _ H2 (s1.trans s2) hp ((l1.same s2).append l2) rfl⟩)
   · rw [if_neg hz]at ed;cases ed
 · cases ed
end
end DL
namespace DL
open PySem PySem.Spec L2 PyProof.Rows
def Zkp(cA:Kn)(neg:Bool):R2:=λx y H Q=>∃av av' dx ys p vs,y = .ref p/\SqT cA.K H p vs/\Rep cA av H dx x/\RepL cA av' H ys vs/\SeqAt.shaped (toP dx)=true/\(∀d∈ys,SeqAt.shaped (toP d)=true)/\(toP dx).depth<=60/\Q (.bl (neg != ys.any (eqP dx))) H
section
variable{X:Cx}{cA:Kn}
open Classical in
theorem Zc6{pins:List (Addr×Obj)}{s:Shared}{σ:L2.St}{H:Hp}{x:V}{v:Value}{av av':Addr->Prop}{dx:D}{ys:List D}{vs:List V}{its:List Value}(hu:X.A.units+64<cLine)(hK:cA.K=X.K)(I:Inv X pins σ H s)(rx:RelV x v)(r:Vals vs its)(hx:Rep cA av H dx x)(hl:RepL cA av' H ys vs)(sx:SeqAt.shaped (toP dx)=true)(sy:∀d∈ys,SeqAt.shaped (toP d)=true)(dp:(toP dx).depth<=60) :
 ∃f:Value->Bool,(∀w,w∈its.toArray->SeqAt.EqAt X.A.in1 s w v (f w))/\its.toArray.any f=ys.any (eqP dx):=by
 obtain⟨bs,rb⟩:=UU hK I dx x v (SeqAt.canLay_of_shaped sx) hx rx
 have key:∀(k:Nat)(w:Value),its[k]? = some w->∃d as,ys[k]? = some d/\Reads s.heap w (toP d) as:=λk w e=>by
  have hk:k<vs.length:=by
   have h1:=(List.getElem?_eq_some_iff.mp e).1;have h2:=r.length;omega
  obtain⟨w',e1',e2⟩:=r.get (List.getElem?_eq_getElem hk);have e1:=List.getElem?_eq_getElem hk;rw [e]at e1';cases e1';obtain⟨d,e3,e4⟩:=hl.getV e1;obtain⟨as,ra⟩:=UU hK I d _ w (SeqAt.canLay_of_shaped (sy d (List.mem_of_getElem? e3))) e4 e2;exact⟨d,as,e3,ra⟩
 let f:Value->Bool:=λw=>decide (∃(k:Nat) (d:D),its[k]? = some w/\ys[k]? = some d/\eqP dx d=true)
 have hf:∀(k:Nat)(w:Value)(d:D),its[k]? = some w->ys[k]? = some d->f w=eqP dx d:=λk w d e1 e2=>by
  obtain⟨d0,as,g1,g2⟩:=key k w e1;rw [e2]at g1;cases g1
  by_cases hh:eqP dx d=true
  · rw [hh];exact decide_eq_true ⟨k,d,e1,e2,hh⟩
  · have : f w = false := decide_eq_false fun ⟨k', d', z1, z2, z3⟩ => by
     obtain⟨d1,as',g3,g4⟩:=key k' w z1;rw [z2]at g3;cases g3;have:=SeqAt.Reads.unique _ _ w _ _ (SeqAt.canLay_of_shaped (sy d (List.mem_of_getElem? e2))) g2 g4;unfold eqP at hh z3;rw [this]at hh;exact hh z3
    rw [this];simpa using hh
 refine⟨f,λw hw => ?_,?_⟩
 · obtain⟨k,hk,e⟩:=List.mem_iff_getElem.mp (show w∈its by simpa using hw)
   have e':its[k]? = some w:=by rw [List.getElem?_eq_getElem hk,e]
   obtain⟨d,as,g1,g2⟩:=key k w e';rw [hf k w d e' g1]
   exact SeqAt.eqAt_reads _ _ _ s w v as bs g2 rb (SeqAt.canLay_of_shaped (sy d (List.mem_of_getElem? g1))) (SeqAt.canLay_of_shaped sx) (by
    have h1:min (toP d).depth (toP dx).depth<=(toP dx).depth:=Nat.min_le_right _ _;have h2:X.A.in1.units<=X.A.units+1:=Nat.le_refl _;omega)
 · rw [show its.toArray.any f=its.any f by simp]
   rw [Bool.eq_iff_iff,List.any_eq_true,List.any_eq_true];constructor
   · rintro⟨w,hw,e⟩
     obtain⟨k,hk,ek⟩:=List.mem_iff_getElem.mp hw;have e':its[k]? = some w:=by rw [List.getElem?_eq_getElem hk,ek]
     obtain⟨d,as,g1,_⟩:=key k w e';exact⟨d,List.mem_of_getElem? g1,by rw [<-hf k w d e' g1];exact e⟩
   · rintro⟨d,hd,e⟩
     obtain⟨k,hk,ek⟩:=List.mem_iff_getElem.mp hd;have e':ys[k]? = some d:=by rw [List.getElem?_eq_getElem hk,ek]
     obtain⟨vv,e1,_⟩:=hl.get e';obtain⟨w,e2,_⟩:=r.get e1;exact⟨w,List.mem_of_getElem? e2,by rw [hf k w d e2 e'];exact e⟩
theorem ZjC(hu:X.A.units+64<cLine)(hK:cA.K=X.K:=by rfl):OpR X (compareOp .In) (Zkp cA false):=by
 intro pins s σ H x y v u Q I rx ry h;obtain⟨av,av',dx,ys,p,vs,rfl,hq,hx,hl,sx,sy,dp,q⟩:=h;cases ry;rw [hK]at hq;obtain⟨its,r,pl,hz⟩:=I.tuple hq;obtain⟨f,h1,h2⟩:=Zc6 hu hK I rx r hx hl sx sy dp;refine SeqAt.in_tupleAt f pl h1 ⟨.bl _,H,I,rfl,?_⟩;rw [h2];simpa using q
theorem Zfq(hu:X.A.units+64<cLine)(hK:cA.K=X.K:=by rfl):OpR X (compareOp .NotIn) (Zkp cA true):=by
 intro pins s σ H x y v u Q I rx ry h;obtain⟨av,av',dx,ys,p,vs,rfl,hq,hx,hl,sx,sy,dp,q⟩:=h;cases ry;rw [hK]at hq;obtain⟨its,r,pl,hz⟩:=I.tuple hq;obtain⟨f,h1,h2⟩:=Zc6 hu hK I rx r hx hl sx sy dp;refine SeqAt.notIn_tupleAt f pl h1 ⟨.bl _,H,I,rfl,?_⟩;rw [h2];simpa using q
def inT(neg:Bool):D->D->Option D
 |x,.tup ys=>if SeqAt.shaped (toP x)&&ys.all (λd=>SeqAt.shaped (toP d))&&decide ((toP x).depth<=60)then some (.bl (neg != ys.any (eqP x)))else none
 |_,_=>none
theorem ZgH{neg:Bool}:Xk cA (Zkp cA neg) (inT neg):=λt t' i H x y vx vy d _ hx hy e Q k=>by
 cases y<;>first|(cases e;done)|skip
 rename_i ys;dsimp only [inT]at e
 by_cases hz:(SeqAt.shaped (toP x)&&ys.all (λd=>SeqAt.shaped (toP d))&&decide ((toP x).depth<=60))=true
 · rw [if_pos hz]at e
   cases e;simp only [Bool.and_eq_true,List.all_eq_true,decide_eq_true_eq]at hz;obtain⟨a,vs,rfl,_,rd,l⟩:=hy;exact⟨_,_,x,ys,a,vs,rfl,SqT.of rd,hx.av0,l,hz.1.1,hz.1.2,hz.2,k _ H (Same.refl H) rfl⟩
 · rw [if_neg hz]at e;cases e
theorem ZjD{K:PySem.W.Frag}(hK:X.K=K:=by rfl):OpR X (binaryOp .Add) (ZgY K):=hK▸Zho
def catT:D->D->Option D
 | .tup (a::as),.tup (b::bs)=>if(a::as).length+(b::bs).length<=sizeLine then some (.tup ((a::as)++(b::bs)))else none
 |_,_=>none
theorem ZhU:Xk cA (ZgY cA.K) catT:=λt t' i H x y vx vy d hi hx hy e Q k=>by
 unfold catT at e
 split at e
 · rename_i a as b bs
   by_cases hz:(a::as).length+(b::bs).length<=sizeLine
   · rw [if_pos hz]at e
     cases e;obtain⟨a1,vs1,rfl,_,r1,l1⟩:=hx;obtain⟨a2,vs2,rfl,_,r2,l2⟩:=hy
     have n1:vs1≠[]:=λz=>by
      have:=l1.length;rw [z]at this;cases this
     have n2:vs2≠[]:=λz=>by
      have:=l2.length;rw [z]at this;cases this
     exact⟨a1,a2,vs1,vs2,rfl,rfl,SqT.of r1,SqT.of r2,n1,by rw [<-l1.length,<-l2.length];exact hz,λz=>absurd z n2,λ_ p hp=>k _ _ (ZW hp) (by
      refine⟨p,vs1++vs2,rfl,λz=>(hi p z hp).elim,ZO,(l1.append l2).same (ZW hp)⟩)⟩
   · rw [if_neg hz]at e;cases e
 · cases e
end
section
variable{prog:Program}{w:World}{A:Around}{E:Value->Shared->Prop}{s:Shared}{l:Addr}{xs:Array (Int×Tok)}
theorem ZdL {Q:Value->Shared->Prop} (hh:A.handled=none) (hl:s.heap.IsTuple l (intItems xs))
 (h:∀h' tk t',(∀b o,s.heap.get? b=some o->h'.get? b=some o)->Q (.int (preSum (numAt xs) xs.size) t') { s with heap:=h',toks:=tk }) :
 wpAny (model prog w) A (call (.builtin "sum") [.ref l]) Q E s:=by
 refine call_sum_walkG (Zah hl λs₂ e st hfp hlI => ?_);subst e;refine⟨_,_,_,_,_,_,numAt xs,rfl,Walks.tuple (A:=A.in1) hh _ l hlI (intItems xs),st,hfp,(λ_ _=>intItems_at),λh' tk t' hk => ?_⟩;have:=h h' tk t' (ZaI hk);simpa [intItems]using this
end
def Zg9(K:PySem.W.Frag):List V->Hp->VK->Prop:=λxs H Q=>∃(p:Addr) (ns:List Int),xs=[.ref p]/\SqT K H p (ns.map V.int)/\Q (.int ns.sum) H
section
variable{X:Cx}{K:PySem.W.Frag}{cA:Kn}
theorem Zfr(hc:X.calm=true):Ym X (.builtin "sum") (Zg9 X.K):=by
 intro pins s σ H xs us Q I rs h;obtain⟨p,ns,rfl,hq,q⟩:=h;obtain⟨u,rfl,rx⟩:=Y2 rs;cases rx;obtain⟨its,rv,hl,hz⟩:=I.tuple hq;have hi:=UD ns its rv;obtain⟨ys,e⟩:=hi.allInts.items
 have hns:ns=ys.toList.map (·.1):=by
  rw [<-hi.numsOf,<-nums_intItems,<-e]
 rw [e]at hl;refine ZdL (I.ok.hd hc) hl λh' tk t' hk => ?_
 have e2:preSum (numAt ys) ys.size=ns.sum:=by
  rw [preSum_eq,List.take_of_length_le (by simp),hns]
 exact⟨.int ns.sum,H,I.kept hk,⟨t',by rw [e2]⟩,q⟩
theorem ZjE(hc:X.calm=true:=by rfl)(hK:X.K=K:=by rfl):Ym X (.builtin "sum") (Zg9 K):=hK▸Zfr hc
def sumTD:List D->Option D
 | [.tup xs]=>match YV xs with
  |some ns=>some (.int ns.sum)
  |none=>none
 |_=>none
theorem ZhV:Vt cA (Zg9 cA.K) sumTD:=λi H ds vs d _ h e Q k=>by
 unfold sumTD at e
 split at e
 · rename_i xs
   cases hb:YV xs with
   |none=>rw [hb]at e;cases e
   |some bs=>
    rw [hb]at e;cases e;obtain⟨v,t,rfl,a,ws,rfl,_,rd,l⟩:=il1 h;have ex:=UC hb;subst ex;have ev:=l.vals (by rw [List.all_map];exact List.all_eq_true.mpr λ_ _=>rfl);rw [List.map_map]at ev;subst ev;exact⟨a,bs,rfl,SqT.of rd,k _ H (Same.refl H) rfl⟩
 · cases e
end
end DL
namespace DL
open PySem PySem.Spec L2
theorem Zcc(i j:Int):eqD (.int i) (.int j)=some (.bl (decide (i=j))):=by
 show(if(ZE (.int i)&&ZE (.int j)&&scal (V.int i) (V.int j))=true then some (D.bl (decide (V.int i=V.int j)))else _)=_;rw [if_pos (by rfl)];simp
theorem Zcd(a b:List Nat):eqD (.str a) (.str b)=some (.bl (decide (a=b))):=by
 show(if(ZE (.str a)&&ZE (.str b)&&scal (S a) (S b))=true then some (D.bl (decide (S a=S b)))else _)=_;rw [if_pos (by rfl)];simp only [ZkB]
theorem ZeB(a b:Bool):eqD (.bl a) (.bl b)=some (.bl (decide (a=b))):=by
 show(if(ZE (.bl a)&&ZE (.bl b)&&scal (V.bl a) (V.bl b))=true then some (D.bl (decide (V.bl a=V.bl b)))else _)=_;rw [if_pos (by rfl)];simp
theorem Zd3:eqD .non .non=some (.bl true):=rfl
theorem Zd4(i:Int):eqD .non (.int i)=some (.bl false):=by
 show(if(ZE .non&&ZE (.int i)&&scal V.non (V.int i))=true then some (D.bl (decide (V.non=V.int i)))else _)=_;rw [if_pos (by rfl)];simp
theorem Zd5(i:Int):eqD (.int i) .non=some (.bl false):=by
 show(if(ZE (.int i)&&ZE .non&&scal (V.int i) V.non)=true then some (D.bl (decide (V.int i=V.non)))else _)=_;rw [if_pos (by rfl)];simp
theorem ZeC(i j:Int):neD (.int i) (.int j)=some (.bl (!decide (i=j))):=by unfold neD;rw [Zcc]
theorem ZeD(i j:List Nat):neD (.str i) (.str j)=some (.bl (!decide (i=j))):=by unfold neD;rw [Zcd]
theorem ZgI:neD .non .non=some (.bl false):=by unfold neD;rw [Zd3];rfl
theorem ZgJ(i:Int):neD .non (.int i)=some (.bl true):=by unfold neD;rw [Zd4];rfl
theorem ZgK(i:Int):neD (.int i) .non=some (.bl true):=by unfold neD;rw [Zd5];rfl
end DL
namespace DL
open PySem PySem.Spec L2
end DL
namespace DL
open PySem PySem.Spec L2
theorem ZhW{cs:List Nat}{i:Int}{c:Nat}(h:cs.length<=sizeLine)(hz:atI cs i=some c):ixD (.str cs) (.int i)=some (.str [c]):=by
 show(if cs.length<=sizeLine then(atI cs i).map λc=>D.str [c]else none)=_;rw [if_pos h,hz];rfl
end DL
namespace DL
open PySem PySem.Spec L2
theorem Zu{a b:Env->Option Out}{δ δ':Env}(h:a δ=some (.nx δ')):Zf a b δ=b δ':=by
 unfold Zf;rw [h]
theorem U0{a b:Env->Option Out}{δ:Env}{d:D}(h:a δ=some (.rt d)):Zf a b δ=some (.rt d):=by
 unfold Zf;rw [h]
theorem ZK{i:Nat}{e:Env->Option D}{δ:Env}{d:D}(h:e δ=some d):Zq i e δ=some (.nx (δ.set i (some d))):=by
 unfold Zq;rw [h]
theorem Yn{e:Env->Option D}{δ:Env}{d:D}(h:e δ=some d):Zy e δ=some (.rt d):=by
 unfold Zy;rw [h]
theorem XM{t:Env->Option Bool}{a b:Env->Option Out}{δ:Env}(h:t δ=some true):sIf t a b δ=a δ:=by
 unfold sIf;rw [h]
theorem Yo{t:Env->Option Bool}{a b:Env->Option Out}{δ:Env}(h:t δ=some false):sIf t a b δ=b δ:=by
 unfold sIf;rw [h]
theorem ZN{e:Env->Option D}{δ:Env}{b:Bool}(h:e δ=some (.bl b)):xB e δ=some b:=by
 unfold xB;rw [h];rfl
theorem JO{t:Env->Option Bool}{δ:Env}{b:Bool}(h:t δ=some b):Xl t δ=some (!b):=by
 unfold Xl;rw [h]
theorem V6{a b:Env->Option Bool}{δ:Env}{x:Bool}(h1:a δ=some false)(h2:b δ=some x):xOr a b δ=some x:=by
 unfold xOr;rw [h1];exact h2
theorem UJ{a b:Env->Option Bool}{δ:Env}{x:Bool}(h1:a δ=some true)(h2:b δ=some x):Xe a b δ=some x:=by
 unfold Xe;rw [h1];exact h2
theorem JP{a b:Env->Option Bool}{δ:Env}(h1:a δ=some false):Xe a b δ=some false:=by
 unfold Xe;rw [h1]
theorem Ye{n:Nat}{m:List D->Option D}{α:Env->Option (List D)}{δ:Env}{ds:List D}(h:α δ=some ds)(hn:ds.length=n):ZB n m [] α δ=m ds:=by
 unfold ZB;rw [h];dsimp only;rw [List.append_nil,if_pos hn]
theorem Zi{a:Env->Option D}{b:Env->Option (List D)}{δ:Env}{x:D}{xs:List D}(h1:a δ=some x)(h2:b δ=some xs):Zb a b δ=some (x::xs):=by
 unfold Zb;rw [h1,h2]
theorem Zh{f:D->D->Option D}{a b:Env->Option D}{δ:Env}{x y:D}(h1:a δ=some x)(h2:b δ=some y):eOp f a b δ=f x y:=by
 unfold eOp;rw [h1,h2]
theorem ZeE{a b:Env->Option D}{δ:Env}{x:D}(h1:a δ=some (.bl true))(h2:b δ=some x):Vq a b δ=some x:=by
 unfold Vq;rw [h1];exact h2
theorem Vz{α:Env->Option (List D)}{δ:Env}{ds:List D}(h:α δ=some ds)(hl:ds.length<=1000):Yi α δ=(some (.tup ds):Option D):=by
 unfold Yi;rw [h];exact if_pos (Nat.le_trans hl (by decide))
theorem XN{α:Env->Option (List D)}{δ:Env}{ds:List D}(h:α δ=some ds)(hl:ds.length<=1000):Yc α δ=(some (.lst ds):Option D):=by
 unfold Yc;rw [h];exact if_pos (Nat.le_trans hl (by decide))
theorem JQ{γ:D->Env->Option Env}{φ:Env->Option Out}(I:Env->Prop):∀(xs:List D)(δ:Env),I δ ->
 (∀x∈xs,∀δ,I δ->∃δ1,γ x δ=some δ1/\∃δ2,φ δ1=some (.nx δ2)/\I δ2)->∃δ',Z0 γ φ xs δ=some (.nx δ')/\I δ'
 | [],δ,h,_=>⟨δ,rfl,h⟩
 |x::xs,δ,h,step=>by
  obtain⟨δ1,h1,δ2,h2,h3⟩:=step x List.mem_cons_self δ h;obtain⟨δ',h4,h5⟩:=JQ I xs δ2 h3 λy hy=>step y (List.mem_cons_of_mem _ hy)
  refine⟨δ',?_,h5⟩;unfold Z0;rw [h1];dsimp only;rw [h2];exact h4
theorem Zce{lo c:Int}{n:Nat}{x:D}(h:x∈Y3 lo c n):∃k:Nat,k<n/\x = .int (lo+(k:Nat)*c):=by
 unfold Y3 at h;obtain⟨k,hk,rfl⟩:=List.mem_map.mp h;exact⟨k,List.mem_range.mp hk,rfl⟩
theorem Zc7 {τ:Env->Option Bool} {φ:Env->Option Out} (I J:Env->Prop) (μ:Env->Nat)
 (step:∀δ,I δ->(τ δ=some false/\J δ)\/(τ δ=some true/\∃δ',φ δ=some (.nx δ')/\I δ'/\μ δ'<μ δ)) :
 ∀(k:Nat)(δ:Env),μ δ<=k->I δ->∃n δ',YU τ φ n δ=some (.nx δ')/\J δ'
 |0,δ,hk,h=>by
  rcases step δ h with⟨h1,h2⟩|⟨h1,δ',h2,h3,h4⟩
  · exact⟨1,δ,by unfold YU;rw [h1],h2⟩
  · omega
 |k+1,δ,hk,h=>by
  rcases step δ h with⟨h1,h2⟩|⟨h1,δ',h2,h3,h4⟩
  · exact⟨1,δ,by unfold YU;rw [h1],h2⟩
  · obtain⟨n,δ2,h5,h6⟩:=Zc7 I J μ step k δ' (by omega) h3
    refine⟨n+1,δ2,?_,h6⟩;unfold YU;rw [h1];dsimp only;rw [h2];exact h5
theorem JR {τ:Env->Option Bool} {φ:Env->Option Out} (I J:Env->Prop) (μ:Env->Nat)
 (step:∀δ,I δ->(τ δ=some false/\J δ)\/(τ δ=some true/\∃δ',φ δ=some (.nx δ')/\I δ'/\μ δ'<μ δ)) (δ:Env) (h:I δ):∃δ',Xm τ φ δ=some (.nx δ')/\J δ':=by
 obtain⟨n,δ',h1,h2⟩:=Zc7 I J μ step (μ δ) δ (Nat.le_refl _) h;exact⟨δ',Zfb h1,h2⟩
theorem ZiU{i:Int}(h:i.natAbs<=10 ^ 1000):Wd i:=Nat.lt_of_le_of_lt h (by decide +kernel)
theorem Zc8{i j:Int}(h1:j≠0)(h2:Wd j):fdivW (.int i) (.int j)=some (.int (i.fdiv j)):=if_pos ⟨h1,h2⟩
theorem Zcf{i j:Int}(h1:j≠0):modW (.int i) (.int j)=some (.int (i.fmod j)):=if_pos h1
theorem ZhX{a b:Int}(h:0<b):0<=a.fmod b/\a.fmod b<b:=by
 rw [Int.fmod_eq_emod_of_nonneg a (by omega)];exact⟨Int.emod_nonneg a (by omega),Int.emod_lt_of_pos a h⟩
end DL
namespace DL
open PySem PySem.Spec L2
theorem Vd{α:Env->Option (List D)}{δ:Env}{j:Int}(h:α δ=some [.int j])(h1 : -1000000<=j)(h2:j<=1000000):Z7 α δ=some (Y3 0 1 j.toNat):=by
 unfold Z7;rw [h];dsimp only;rw [if_pos ⟨by omega,by omega⟩]
theorem ZjF{α:Env->Option (List D)}{δ:Env}{i j:Int}(h:α δ=some [.int i,.int j])(h1 : -1000000<=j)(h2:j<=1000000)(h3 : -1000000<=i)(h4:i<=1000000):Z7 α δ=some (Y3 i 1 (j-i).toNat):=by
 unfold Z7;rw [h];dsimp only;rw [if_pos ⟨by omega,by omega,by omega,by omega⟩]
theorem V7{i:Nat}{ε:Env->Option D}{δ:Env}{xs:List D}{d:D}(h1:Za i δ=some (.lst xs))(h2:ε δ=some d)(hl:xs.length<=1000000):YA i ε δ=some (.nx (δ.set i (some (.lst (xs++[d]))))):=by
 unfold YA;rw [h1];dsimp only;rw [h2];dsimp only;rw [if_pos (by rw [PySem.sizeLine_eq];omega)]
theorem Ve{ι:Env->Option (List D)}{γ:D->Env->Option Env}{φ:Env->Option Out}{δ:Env}{xs:List D}{o:Out}(h1:ι δ=some xs)(h2:Z0 γ φ xs δ=some o):Yv ι γ φ δ=some o:=by
 unfold Yv;rw [h1];exact h2
theorem Yx{ι:Env->Option (List D)}{γ:D->Env->Option Env}{τ:Env->Option Bool}{ε:Env->Option D}{n:Nat}{js:List Nat}{δ δ0:Env}{xs ys:List D}(h1:ι δ=some xs)(hb:YO n δ js=δ0)(h2:YB γ τ ε δ0 xs=some ys)(hl:ys.length<=1000000):ZF ι γ τ ε n js δ=some (.lst ys):=by
 unfold ZF;rw [h1];dsimp only;rw [hb,h2];dsimp only;rw [if_pos (by rw [PySem.sizeLine_eq];omega)]
theorem ZI{f:List D->Option D}{α:Env->Option (List D)}{δ:Env}{ds:List D}(h:α δ=some ds):eCB f α δ=f ds:=by
 unfold eCB;rw [h]
theorem YE{n:Nat}{f:Env->Option Out}{vs:List D}{δ:Env}{d:D}(h1:(vs.map some++List.replicate (n-vs.length) none)=δ)(h2:f δ=some (.rt d)):DL.run n f vs=some d:=by
 unfold DL.run;rw [h1,h2]
theorem nil_of{δ:Env}:eNil δ=some []:=rfl
theorem JS{t:List (String×Bool)}{a:Env->Option D}{δ:Env}{d:D}{b:Bool}(h1:a δ=some d)(h2:Qo t d=some b):Va t a δ=some (.bl b):=by
 unfold Va;rw [h1];dsimp only;rw [h2]
end DL
namespace DL
open PySem PySem.Spec L2
theorem Zc9{x:D}(hs:ZE x=false)(h:SeqAt.shaped (toP x)=true):eqD x x=some (.bl true):=by
 unfold eqD;rw [if_neg (by simp [hs]),h,if_pos (by rfl)];rw [SeqAt.eqv_refl _ (SeqAt.canLay_of_shaped h)]
theorem JT{x:D}(hs:ZE x=false)(h:SeqAt.shaped (toP x)=true):neD x x=some (.bl false):=by
 unfold neD;rw [Zc9 hs h];rfl
def Xx(w:List Nat):Prop:=∀c∈w,c<1114112
theorem Zda{w:List Nat}(h:Xx w):PyData.strOk (tx w)=true:=by
 unfold PyData.strOk tx;simpa [Xx]using h
theorem JU:∀ws:List Int,PyData.canLayAll0 (Yq (ws.map D.int))=true
 | []=>rfl
 |w::ws=>by rw [List.map_cons,Yq,PyData.canLayAll0,JU ws];rfl
theorem JV:∀ws:List Int,PyData.depthAll (Yq (ws.map D.int))=0
 | []=>rfl
 |w::ws=>by rw [List.map_cons,Yq,PyData.depthAll,JV ws];rfl
end DL
namespace DL
open PySem PySem.Spec L2
theorem add_int(i j:Int):addX (.int i) (.int j)=some (.int (i+j)):=rfl
theorem add_str{a b:List Nat}(h:a.length+b.length<=100000):addX (.str a) (.str b)=some (.str (a++b)):=by
 show(if a.length+b.length<=PySem.sizeLine then some (D.str (a++b))else none)=_;rw [if_pos (by rw [PySem.sizeLine_eq];omega)]
theorem ZhY{a b:List D}(h:a.length+b.length<=100000):addX (.lst a) (.lst b)=some (.lst (a++b)):=by
 show(if a.length+b.length<=PySem.sizeLine then some (D.lst (a++b))else none)=_;rw [if_pos (by rw [PySem.sizeLine_eq];omega)]
theorem JW{i j:Int}(h1 : -1000<=j)(h2:j<=1000):mulX (.int i) (.int j)=some (.int (i*j)):=if_pos (.inr (.inr ⟨by omega,by omega⟩))
theorem ZhZ{a:List D}{n:Nat}(h:a.length*n<=100000)(hn:n<=100000):mulX (.lst a) (.int (n:Int))=some (.lst (List.replicate n a).flatten):=by
 unfold mulX;dsimp only;rw [Int.toNat_natCast,if_pos ⟨by omega,by omega,by rw [PySem.sizeLine_eq];omega⟩]
theorem ZeF{n a:Nat}(h:a<n):ixN n (a:Int)=some a:=by
 unfold ixN;rw [if_pos (by omega),if_pos (by omega),Int.toNat_natCast]
theorem Vf{xs:List D}{a:Nat}{x:D}(h:xs[a]? = some x):ixD (.lst xs) (.int (a:Int))=some x:=Jr h
theorem ix_tup{xs:List D}{a:Nat}{x:D}(h:xs[a]? = some x):ixD (.tup xs) (.int (a:Int))=some x:=Jr h
theorem ix_str{cs:List Nat}{a:Nat}{c:Nat}(h:cs[a]? = some c)(hl:cs.length<=100000):ixD (.str cs) (.int (a:Int))=some (.str [c]):=ZhW (by rw [PySem.sizeLine_eq];omega) (Jr h)
theorem Zh0{cs:List Int}{a:Nat}(h:a<cs.length):ixD (.lst (cs.map D.int)) (.int (a:Int))=some (.int (cs.getD a 0)):=by
 refine Vf ?_;rw [List.getElem?_map,List.getElem?_eq_getElem h,List.getD_eq_getElem?_getD,List.getElem?_eq_getElem h];rfl
theorem Zh1{xs:List D}:lenD [.lst xs]=some (.int (xs.length:Int)):=rfl
theorem JX{c:String}{n:Nat}{m:List D->Option D}{α:Env->Option (List D)}{δ:Env}{ds:List D}(h:α δ=some ds)(hn:ds.length+1=n):XV c n m [] α δ=m (.obj c [] []::ds):=by
 unfold XV;rw [h];dsimp only;rw [List.append_nil,if_pos (by rw [List.length_cons];exact hn)]
end DL
namespace K39
open PySem PySem.Spec L2 DL
def XZ:List String:=["Web"]
def Y6:List String:=["Web"]
def Yj:List String:=["Web"]
def JY:List (String×Bool):=[("NoneType",false),("bool",false),("int",false),("str",false),("list",true),("tuple",false),("Web",false)]
def Q7:List (String×Bool):=[("NoneType",false),("bool",false),("int",false),("str",false),("list",false),("tuple",true),("Web",false)]
noncomputable def f_QP:DL.Env->Option Out:=
 (Zf (sIf (Xe (xB (Va Q7 (Za 0))) (xB (eCB (QV λbs=>bs.all id) (Zb (ZF (ZH (Za 0)) (Zw 0) (λ_=>some true) (Va Q7 (Za 0)) 1 []) eNil)))) (Zy (Za 0)) sNext)
 (Zy (eCB ZZ (Zb (ZF (ZH (Za 0)) (Zw 0) (λ_=>some true) (eCB ZZ (Zb (Za 0) eNil)) 1 []) eNil))))
noncomputable def U1:List D->Option D:=run 1 f_QP
noncomputable def f_QS:DL.Env->Option Out:=
 (Zf (Y0 0 XZ "homes" (eCB ZZ (Zb (Za 1) eNil)))
 (Zf (Y0 0 Yj "weights" (eCB ZZ (Zb (Za 2) eNil)))
 (Y0 0 Y6 "ways" (eCB ZZ (Zb (ZF (ZH (Za 3)) (Zw 0) (λ_=>some true) (ZB 1 U1 [] (Zb (Za 0) eNil)) 1 []) eNil)))))
noncomputable def V8:List D->Option D:=runI 4 f_QS
noncomputable def f_QQ:DL.Env->Option Out:=
 (Zy (eCB lenD (Zb (ZM XZ "homes" (Za 0)) eNil)))
noncomputable def JZ:List D->Option D:=run 1 f_QQ
noncomputable def f_QN:DL.Env->Option Out:=
 (Zy (eOp eqD (eCB minQD (Zb (ZM Yj "weights" (Za 0)) eNil)) (eCB maxQD (Zb (ZM Yj "weights" (Za 0)) eNil))))
noncomputable def J0:List D->Option D:=run 1 f_QN
noncomputable def f_QE:DL.Env->Option Out:=
 (Zf (Yv (Vc (eOp ixD (ZM Y6 "ways" (Za 0)) (Za 1))) (Yu 2 (ZJ 2 (ZJ 3 gsNil))) (sIf (xB (eOp (Z6 λi j=>decide (i<j)) (eOp ixD (ZM Yj "weights" (Za 0)) (eOp ixD (Za 3) (eC (.int 1)))) (eOp ixD (ZM Yj "weights" (Za 0)) (Za 1)))) (Zy (Za 2)) sNext))
 (Zy (eC .non)))
noncomputable def U2:List D->Option D:=run 4 f_QE
noncomputable def f_QH:DL.Env->Option Out:=
 (Zf (Zq 2 (JJ (eC (.int 0)) (eC (.int 0))))
 (Zf (Zq 3 (eC (.int 0)))
 (Zf (Yv (QX (Za 0)) (Yu 2 (ZJ 4 (ZJ 5 gsNil))) (Zf (Zq 3 (eOp addX (Za 3) (Za 5)))
 (Zf (sIf (xB (eOp (inK false) (eOp modW (Za 3) (Za 1)) (Za 2))) (Zy (Yi (Zb (eOp Qu (Za 2) (eOp modW (Za 3) (Za 1))) (Zb (Za 4) eNil)))) sNext)
 (Xv 2 (eOp modW (Za 3) (Za 1)) (Za 4)))))
 (Zy (Yi (Zb (eC (.int 0)) (Zb (eC (.int 0)) eNil)))))))
noncomputable def J4:List D->Option D:=run 6 f_QH
noncomputable def VB:MTab:=[("Web",1,JZ)]
noncomputable def f_QV:DL.Env->Option Out:=
 (Zf (sIf (xB (ZB 1 J0 [] (Zb (Za 0) eNil))) (Zy (eC .non)) sNext)
 (Zf (Zq 2 (eCB maxQD (Zb (ZM Yj "weights" (Za 0)) eNil)))
 (Zf (Zq 3 (ZF (Z7 (Zb (XW "many" VB (Za 0) eNil) eNil)) (Zw 0) (xB (eOp eqD (eOp ixD (ZM Yj "weights" (Za 1)) (Za 0)) (Za 2))) (Za 0) 1 [0,2]))
 (Zf (Zq 4 (eOp ixD (ZF (ZH (Za 3)) (Zw 0) (xB (V1 (ZB 2 U2 [] (Zb (Za 1) (Zb (Za 0) eNil))))) (Za 0) 1 [0]) (eC (.int 0))))
 (Zf (Zq 5 (ZB 2 U2 [] (Zb (Za 0) (Zb (Za 4) eNil))))
 (Zf (Zq 6 (ZF (Z7 (Zb (eCB lenD (Zb (eOp ixD (ZM Y6 "ways" (Za 0)) (Za 4)) eNil)) eNil)) (Zw 0) (xB (eOp neD (Za 0) (Za 1))) (Za 0) 1 [5]))
 (Zf (Zq 7 (eCB UZ (Zb (eOp XJ (eSl (Za 6) xNoP (xP (eOp subD (Za 1) (eC (.int 1))))) (Yc (Zb (Za 5) eNil))) eNil)))
 (Zf (Zq 8 (ZB 2 J4 [] (Zb (ZF (ZH (Za 7)) (Zw 0) (λ_=>some true) (eOp ixD (ZM Yj "weights" (Za 1)) (eOp ixD (eOp ixD (eOp ixD (ZM Y6 "ways" (Za 1)) (Za 2)) (Za 0)) (eC (.int 1)))) 1 [0,4]) (Zb (Za 1) eNil))))
 (Zy (Yi (Zb (Za 4) (Zb (eSl (Za 7) (xP (eOp ixD (Za 8) (eC (.int 0)))) (xP (eOp ixD (Za 8) (eC (.int 1))))) eNil))))))))))))
noncomputable def X0:List D->Option D:=run 9 f_QV
noncomputable def f_QU:DL.Env->Option Out:=
 (Zf (sIf (xB (eOp (inD true) (Za 1) (ZF (ZH (Za 0)) (Zw 0) (λ_=>some true) (eOp ixD (Za 0) (eC (.int 1))) 1 []))) (Zy (Za 0)) sNext)
 (Zf (Zq 3 (Yc eNil))
 (Zf (Yv (ZH (Za 0)) (Zw 4) (Zf (YA 3 (Za 4))
 (sIf (xB (eOp eqD (eOp ixD (Za 4) (eC (.int 1))) (Za 1))) (YA 3 (Yi (Zb (eOp ixD (Za 4) (eC (.int 0))) (Zb (Za 2) eNil)))) sNext)))
 (Zy (eCB ZZ (Zb (Za 3) eNil))))))
noncomputable def J5:List D->Option D:=run 5 f_QU
noncomputable def f_QX:DL.Env->Option Out:=
 (Zf (Zq 4 (eOp ixD (ZM Y6 "ways" (Za 0)) (Za 2)))
 (Zf (Zq 5 (ZF (Vc (Za 4)) (Yu 2 (ZJ 0 (ZJ 1 gsNil))) (xB (eOp (inD false) (Za 0) (Za 2))) (Za 1) 2 [3]))
 (Zf (Zq 6 (ZF (Vc (Za 4)) (Yu 2 (ZJ 0 (ZJ 1 gsNil))) (xB (eOp (inD true) (Za 0) (Za 2))) (Za 1) 2 [3]))
 (Zf (Zq 7 (eOp fdivW (eCB sumLD (Zb (ZF (ZH (Za 5)) (Zw 0) (λ_=>some true) (eOp ixD (ZM Yj "weights" (Za 1)) (eOp ixD (Za 0) (eC (.int 1)))) 1 [0]) eNil)) (Za 1)))
 (Zf (Zq 8 (XW "many" VB (Za 0) eNil))
 (Zf (Zq 9 (eOp XJ (eCB Y5 (Zb (ZM Y6 "ways" (Za 0)) eNil)) (Yc (Zb (Za 6) eNil))))
 (Zf (XH 9 (Za 2) (Za 5))
 (Zf (Zq 10 (eOp XJ (eCB Y5 (Zb (ZM Yj "weights" (Za 0)) eNil)) (Yc (Zb (eOp subD (eOp ixD (ZM Yj "weights" (Za 0)) (Za 2)) (Za 7)) eNil))))
 (Zf (XH 10 (Za 2) (Za 7))
 (Zf (Zq 11 (eOp XJ (eCB Y5 (Zb (ZM XZ "homes" (Za 0)) eNil)) (Yc (Zb (eOp ixD (ZM XZ "homes" (Za 0)) (Za 2)) eNil))))
 (Zy (XV "Web" 4 V8 [] (Zb (Za 11) (Zb (Za 10) (Zb (ZF (ZH (Za 9)) (Zw 0) (λ_=>some true) (ZB 3 J5 [] (Zb (Za 0) (Zb (Za 1) (Zb (Za 2) eNil)))) 1 [2,8]) eNil)))))))))))))))
noncomputable def Qy:List D->Option D:=run 12 f_QX
noncomputable def f_QW:DL.Env->Option Out:=
 (Zy (XV "Web" 4 V8 [] (Zb (ZM XZ "homes" (Za 0)) (Zb (eOp JI (Yc (Zb (eC (.int 1)) eNil)) (XW "many" VB (Za 0) eNil)) (Zb (ZM Y6 "ways" (Za 0)) eNil)))))
noncomputable def J6:List D->Option D:=run 1 f_QW
noncomputable def f_QT:DL.Env->Option Out:=
 (Zf (Zq 2 (Yc (Zb (Za 0) eNil)))
 (Zf (Zq 3 (ZB 2 X0 [] (Zb (Za 0) (Zb (Za 1) eNil))))
 (Zf (Xm (xB (V1 (Za 3))) (Zf (YA 2 (ZB 4 Qy [] (Zb (eOp ixD (Za 2) (eUn Vr (eC (.int 1)))) (Zb (Za 1) (Zb (eOp ixD (Za 3) (eC (.int 0))) (Zb (eOp ixD (Za 3) (eC (.int 1))) eNil))))))
 (Zq 3 (ZB 2 X0 [] (Zb (eOp ixD (Za 2) (eUn Vr (eC (.int 1)))) (Zb (Za 1) eNil))))))
 (Zf (sIf (xB (eOp (Z6 λi j=>decide (j<i)) (eOp ixD (ZM Yj "weights" (eOp ixD (Za 2) (eUn Vr (eC (.int 1))))) (eC (.int 0))) (eC (.int 1)))) (YA 2 (ZB 1 J6 [] (Zb (eOp ixD (Za 2) (eUn Vr (eC (.int 1)))) eNil))) sNext)
 (Zy (Za 2))))))
noncomputable def J7:List D->Option D:=run 4 f_QT
noncomputable def f_QB:DL.Env->Option Out:=
 (Zf (sIf (xB (eOp (Z6 λi j=>decide (i<j)) (Za 1) (eCB lenD (Zb (Za 0) eNil)))) (Zy (eOp ixD (Za 0) (Za 1))) sNext)
 (Zy (eC (.int 0))))
noncomputable def YQ:List D->Option D:=run 2 f_QB
noncomputable def f_QL:DL.Env->Option Out:=
 (Zy (eOp addX (eOp addX (eOp ixD (eC (.str [97,98,99,100])) (eOp modW (eOp fdivW (Za 0) (eC (.int 16))) (eC (.int 4)))) (eOp ixD (eC (.str [97,98,99,100])) (eOp modW (eOp fdivW (Za 0) (eC (.int 4))) (eC (.int 4))))) (eOp ixD (eC (.str [97,98,99,100])) (eOp modW (Za 0) (eC (.int 4))))))
noncomputable def J8:List D->Option D:=run 1 f_QL
noncomputable def f_QK:DL.Env->Option Out:=
 (Zy (eOp (Z6 λi j=>decide (j<=i)) (eCB sumLD (Zb (ZF (ZH (eOp ixD (Za 1) (Za 2))) (Zw 0) (λ_=>some true) (eOp ixD (Za 1) (Za 0)) 1 [0]) eNil)) (eOp mulX (Za 3) (eOp ixD (Za 0) (Za 2)))))
noncomputable def J9:List D->Option D:=run 4 f_QK
noncomputable def f_QF:DL.Env->Option Out:=
 (Zf (Zq 2 (Yc eNil))
 (Zf (Yv (Z7 (Zb (eCB lenD (Zb (Za 0) eNil)) eNil)) (Zw 3) (Zf (Zq 4 (eOp addX (eC (.int 19)) (Za 3)))
 (Zf (Zq 5 (eOp subD (eOp addX (Za 3) (eC (.int 1))) (eOp mulX (eOp modW (Za 3) (eC (.int 2))) (eC (.int 2)))))
 (Zf (sIf (Xe (xB (eOp eqD (Za 1) (eC (.int 1)))) (Xe (xB (eOp (Z6 λi j=>decide (i<j)) (Za 5) (eCB lenD (Zb (Za 0) eNil)))) (xB (eOp neD (eOp ixD (Za 0) (Za 5)) (eOp ixD (Za 0) (Za 3)))))) (Zq 4 (eOp fdivW (Za 3) (eC (.int 2)))) sNext)
 (YA 2 (Yi (Zb (ZB 1 J8 [] (Zb (Za 4) eNil)) (Zb (eOp ixD (Za 0) (Za 3)) eNil))))))))
 (Zy (eCB ZZ (Zb (Za 2) eNil)))))
noncomputable def Zj2:List D->Option D:=run 6 f_QF
noncomputable def f_QR:DL.Env->Option Out:=
 (Zf (Zq 3 (eOp addX (eC (.int 1)) (eOp modW (ZB 2 YQ [] (Zb (Za 0) (Zb (Za 1) eNil))) (eC (.int 5)))))
 (Zf (Zq 4 (ZF (Z7 (Zb (Za 3) eNil)) (Zw 0) (λ_=>some true) (eOp addX (eC (.int 1)) (eOp modW (ZB 2 YQ [] (Zb (Za 1) (Zb (eOp addX (eOp addX (Za 2) (eC (.int 1))) (Za 0)) eNil))) (eC (.int 5)))) 1 [0,1]))
 (Zf (Zq 5 (ZF (Z7 (Zb (Za 3) eNil)) (Zw 0) (λ_=>some true) (eOp modW (eOp fdivW (ZB 2 YQ [] (Zb (Za 1) (Zb (eOp addX (eOp addX (Za 2) (eC (.int 1))) (Za 0)) eNil))) (eC (.int 5))) (eC (.int 4))) 1 [0,1]))
 (Zf (Qs 6 (Qt (ZF (Z7 (Zb (Za 3) eNil)) (Zw 0) (λ_=>some true) (Yc (Zb (eOp modW (eOp addX (Za 0) (eC (.int 1))) (Za 1)) eNil)) 1 [3])))
 (Zf (Yv (Z7 (Zb (eOp addX (Za 1) (eC (.int 6))) (Zb (eCB lenD (Zb (Za 0) eNil)) eNil))) (Zw 7) (Zf (Xs 6 (Zq 8 (eOp modW (eOp fdivW (eOp ixD (Za 0) (Za 7)) (eC (.int 7))) (Za 3))))
 (sIf (xB (eOp (Z6 λi j=>decide (i<j)) (eCB lenD (Zb (eOp ixD (Za 6) (Za 8)) eNil)) (eC (.int 8)))) (Vx 6 (Za 8) (eOp modW (eOp ixD (Za 0) (Za 7)) (Za 3))) sNext)))
 (Zf (Yv (Z7 (Zb (Za 3) eNil)) (Zw 8) (Zf (Xs 6 (Zq 9 (eOp modW (eOp fdivW (ZB 2 YQ [] (Zb (Za 0) (Zb (eOp addX (eOp addX (Za 1) (eC (.int 1))) (Za 8)) eNil))) (eC (.int 20))) (Za 3))))
 (Xm (Xl (xB (ZB 4 J9 [] (Zb (Za 4) (Zb (Za 6) (Zb (Za 8) (Zb (Za 2) eNil))))))) (Zf (Vx 6 (Za 8) (Za 9))
 (Xs 6 (Zq 9 (eOp modW (eOp addX (Za 9) (eC (.int 1))) (Za 3))))))))
 (Qv (Zf (Zq 10 (Yc eNil))
 (Zf (Yv (Z7 (Zb (Za 3) eNil)) (Zw 8) (YA 10 (ZB 2 Zj2 [] (Zb (eOp ixD (Za 6) (Za 8)) (Zb (eOp modW (eOp fdivW (ZB 2 YQ [] (Zb (Za 0) (Zb (eC (.int 1)) eNil))) (eC (.int 2))) (eC (.int 2))) eNil)))))
 (Zy (Yi (Zb (eCB ZZ (Zb (Za 5) eNil)) (Zb (eCB ZZ (Zb (Za 4) eNil)) (Zb (eCB ZZ (Zb (Za 10) eNil)) eNil))))))))))))))
noncomputable def Q8:List D->Option D:=run 11 f_QR
noncomputable def f_QD:DL.Env->Option Out:=
 (Zf (sIf (xB (eOp eqD (eOp modW (ZB 2 YQ [] (Zb (Za 0) (Zb (eC (.int 1)) eNil))) (eC (.int 2))) (eC (.int 0)))) (Zy (XV "Web" 4 V8 [] (Zb (eOp ixD (Za 1) (eC (.int 0))) (Zb (eOp ixD (Za 1) (eC (.int 1))) (Zb (eOp ixD (Za 1) (eC (.int 2))) eNil))))) sNext)
 (JN 2 3 4 5 (eCB Y5 (Zb (eOp ixD (Za 1) (eC (.int 0))) eNil)) (eCB Y5 (Zb (eOp ixD (Za 1) (eC (.int 1))) eNil)) (ZF (ZH (eOp ixD (Za 1) (eC (.int 2)))) (Zw 0) (λ_=>some true) (eCB Y5 (Zb (Za 0) eNil)) 1 []) (XV "Web" 4 V8 [] (Zb (eOp ixD (Za 2) (eC (.int 0))) (Zb (eOp ixD (Za 2) (eC (.int 1))) (Zb (eOp ixD (Za 2) (eC (.int 2))) eNil))))))
noncomputable def Zj3:List D->Option D:=run 6 f_QD
noncomputable def f_QG:DL.Env->Option Out:=
 (Zf (JK (Yu 3 (ZJ 2 (ZJ 3 (ZJ 4 gsNil)))) (Za 0))
 (Zf (Yv (Z7 (Zb (eCB lenD (Zb (Za 2) eNil)) eNil)) (Zw 5) (sIf (xB (eOp (Z6 λi j=>decide (i<j)) (eCB sumLD (Zb (ZF (ZH (eOp ixD (Za 4) (Za 5))) (Zw 0) (λ_=>some true) (eOp ixD (Za 1) (eOp ixD (Za 0) (eC (.int 1)))) 1 [3]) eNil)) (eOp mulX (Za 1) (eOp ixD (Za 3) (Za 5))))) (Zy (eC (.bl false))) sNext))
 (Zy (eC (.bl true)))))
noncomputable def Zj4:List D->Option D:=run 6 f_QG
noncomputable def f_QC:DL.Env->Option Out:=
 (Zf (Zq 2 (eC (.dct [] [])))
 (Zf (Zq 3 (Yc (Zb (Za 1) eNil)))
 (Zf (Xm (xB (eOp (Z6 λi j=>decide (j<i)) (eCB lenD (Zb (Za 3) eNil)) (eC (.int 0)))) (Qw (Qx 3 (Za 0)) (Zw 4) (sIf (xB (eOp (inK true) (eOp ixD (Za 4) (eC (.int 1))) (Za 2))) (Zf (Xv 2 (eOp ixD (Za 4) (eC (.int 1))) (eC (.bl true)))
 (YA 3 (eOp ixD (Za 4) (eC (.int 1))))) sNext)))
 (Zy (Za 2)))))
noncomputable def Q9:List D->Option D:=run 5 f_QC
noncomputable def f_QM:DL.Env->Option Out:=
 (Zf (Yv (Z7 (Zb (eCB lenD (Zb (eOp ixD (Za 0) (eC (.int 0))) eNil)) eNil)) (Zw 1) (sIf (xB (eOp neD (eCB lenKD (Zb (ZB 2 Q9 [] (Zb (eOp ixD (Za 0) (eC (.int 2))) (Zb (Za 1) eNil))) eNil)) (eCB lenD (Zb (eOp ixD (Za 0) (eC (.int 0))) eNil)))) (Zy (eC (.bl false))) sNext))
 (Zy (eC (.bl true))))
noncomputable def Zj5:List D->Option D:=run 2 f_QM
noncomputable def f_QO:DL.Env->Option Out:=
 (Zy (Yi (Zb (ZM XZ "homes" (Za 0)) (Zb (ZM Yj "weights" (Za 0)) (Zb (ZM Y6 "ways" (Za 0)) eNil)))))
noncomputable def Qz:List D->Option D:=run 1 f_QO
noncomputable def f_QJ:DL.Env->Option Out:=
 (Zf (Zq 3 (Yc eNil))
 (Zf (Yv (ZH (Za 0)) (Yu 2 (ZJ 4 (ZJ 5 gsNil))) (Zf (YA 3 (Yi (Zb (Za 4) (Zb (Za 5) eNil))))
 (sIf (xB (eOp eqD (Za 5) (Za 1))) (YA 3 (Yi (Zb (Za 4) (Zb (Za 2) eNil)))) sNext)))
 (Zy (eCB ZZ (Zb (Za 3) eNil)))))
noncomputable def Zj6:List D->Option D:=run 6 f_QJ
noncomputable def f_QA:DL.Env->Option Out:=
 (Zf (Zq 3 (eCB lenD (Zb (eOp ixD (Za 0) (eC (.int 0))) eNil)))
 (Zf (Zq 4 (ZF (Z7 (Zb (Za 3) eNil)) (Zw 0) (xB (eOp neD (eOp ixD (eOp ixD (Za 1) (eC (.int 1))) (Za 0)) (eOp ixD (eOp ixD (Za 2) (eC (.int 1))) (Za 0)))) (Za 0) 1 [0,1]))
 (Zf (sIf (xOr (xB (eOp neD (eCB lenD (Zb (eOp ixD (Za 1) (eC (.int 0))) eNil)) (eOp addX (Za 3) (eC (.int 1))))) (xOr (xB (eOp neD (eCB lenD (Zb (Za 4) eNil)) (eC (.int 1)))) (xOr (xB (eOp neD (eCB lenD (Zb (eOp ixD (Za 1) (eC (.int 1))) eNil)) (eOp addX (Za 3) (eC (.int 1))))) (xB (eOp neD (eCB lenD (Zb (eOp ixD (Za 1) (eC (.int 2))) eNil)) (eOp addX (Za 3) (eC (.int 1)))))))) (Zy (eC (.bl false))) sNext)
 (Zf (Zq 5 (eOp ixD (Za 4) (eC (.int 0))))
 (Zf (sIf (xOr (xB (eOp neD (eOp ixD (Za 1) (eC (.int 0))) (eOp catT (eOp ixD (Za 0) (eC (.int 0))) (Yi (Zb (eOp ixD (eOp ixD (Za 0) (eC (.int 0))) (Za 5)) eNil))))) (xB (eOp neD (eOp addX (eOp ixD (eOp ixD (Za 1) (eC (.int 1))) (Za 5)) (eOp ixD (eOp ixD (Za 1) (eC (.int 1))) (Za 3))) (eOp ixD (eOp ixD (Za 0) (eC (.int 1))) (Za 5))))) (Zy (eC (.bl false))) sNext)
 (Zf (sIf (xOr (xB (eOp neD (eOp ixD (eOp ixD (Za 0) (eC (.int 1))) (Za 5)) (eCB maxQD (Zb (eOp ixD (Za 0) (eC (.int 1))) eNil)))) (xB (eOp (Z6 λi j=>decide (i<j)) (eCB minQD (Zb (eOp ixD (Za 1) (eC (.int 1))) eNil)) (eC (.int 1))))) (Zy (eC (.bl false))) sNext)
 (Zf (sIf (xB (eOp eqD (eCB minQD (Zb (ZF (ZH (eOp ixD (eOp ixD (Za 0) (eC (.int 2))) (Za 5))) (Zw 0) (λ_=>some true) (eOp ixD (eOp ixD (Za 1) (eC (.int 1))) (eOp ixD (Za 0) (eC (.int 1)))) 1 [0]) eNil)) (eOp ixD (eOp ixD (Za 0) (eC (.int 1))) (Za 5)))) (Zy (eC (.bl false))) sNext)
 (Zf (Zq 6 (ZF (ZH (eOp ixD (eOp ixD (Za 0) (eC (.int 2))) (Za 5))) (Zw 0) (xB (eOp (inT false) (Za 0) (eOp ixD (eOp ixD (Za 1) (eC (.int 2))) (Za 2)))) (Za 0) 1 [1,5]))
 (Zf (Zq 7 (ZF (ZH (eOp ixD (eOp ixD (Za 0) (eC (.int 2))) (Za 5))) (Zw 0) (xB (eOp (inT true) (Za 0) (eOp ixD (eOp ixD (Za 1) (eC (.int 2))) (Za 2)))) (Za 0) 1 [1,5]))
 (Zf (sIf (xB (eOp neD (eCB sumLD (Zb (ZF (ZH (Za 6)) (Zw 0) (λ_=>some true) (eOp ixD (eOp ixD (Za 1) (eC (.int 1))) (eOp ixD (Za 0) (eC (.int 1)))) 1 [0]) eNil)) (eOp mulX (Za 2) (eOp ixD (eOp ixD (Za 1) (eC (.int 1))) (Za 5))))) (Zy (eC (.bl false))) sNext)
 (Zf (Zq 8 (eOp XJ (eCB Y5 (Zb (eOp ixD (Za 0) (eC (.int 2))) eNil)) (Yc (Zb (Za 7) eNil))))
 (Zf (XH 8 (Za 5) (Za 6))
 (Zy (eOp eqD (eOp ixD (Za 1) (eC (.int 2))) (eCB ZZ (Zb (ZF (ZH (Za 8)) (Zw 0) (λ_=>some true) (ZB 3 Zj6 [] (Zb (Za 0) (Zb (Za 1) (Zb (Za 2) eNil)))) 1 [5,3]) eNil))))))))))))))))
noncomputable def Zj7:List D->Option D:=run 9 f_QA
noncomputable def f_QI:DL.Env->Option Out:=
 (Zy (eOp eqD (eCB maxQD (Zb (Za 0) eNil)) (eCB minQD (Zb (Za 0) eNil))))
noncomputable def Ja:List D->Option D:=run 1 f_QI
noncomputable def f_QY:DL.Env->Option Out:=
 (Zf (Zq 1 (eOp addX (eC (.int 1)) (eOp modW (ZB 2 YQ [] (Zb (Za 0) (Zb (eC (.int 0)) eNil))) (eC (.int 6)))))
 (Zf (Zq 2 (ZB 3 Q8 [] (Zb (Za 0) (Zb (eC (.int 2)) (Zb (Za 1) eNil)))))
 (Zf (Zq 3 (ZB 2 Zj3 [] (Zb (Za 0) (Zb (Za 2) eNil))))
 (Zf (Zq 4 (ZB 2 J7 [] (Zb (Za 3) (Zb (Za 1) eNil))))
 (Zf (sIf (xOr (Xl (xB (Va JY (Za 4)))) (xOr (xB (eOp eqD (eCB lenD (Zb (Za 4) eNil)) (eC (.int 0)))) (xB (eOp neD (ZB 1 Qz [] (Zb (Za 3) eNil)) (Za 2))))) (Zy (eC (.bl false))) sNext)
 (Zf (Zq 5 (ZF (ZH (Za 4)) (Zw 0) (λ_=>some true) (ZB 1 Qz [] (Zb (Za 0) eNil)) 1 []))
 (Zf (sIf (xB (eOp neD (eOp ixD (Za 5) (eC (.int 0))) (Za 2))) (Zy (eC (.bl false))) sNext)
 (Zf (Zq 6 (eC (.int 0)))
 (Zf (Xm (Xe (xB (eOp (Z6 λi j=>decide (i<j)) (eOp addX (Za 6) (eC (.int 1))) (eCB lenD (Zb (Za 5) eNil)))) (Xl (xB (ZB 1 Ja [] (Zb (eOp ixD (eOp ixD (Za 5) (Za 6)) (eC (.int 1))) eNil))))) (Zf (sIf (Xl (xB (ZB 3 Zj7 [] (Zb (eOp ixD (Za 5) (Za 6)) (Zb (eOp ixD (Za 5) (eOp addX (Za 6) (eC (.int 1)))) (Zb (Za 1) eNil)))))) (Zy (eC (.bl false))) sNext)
 (Zq 6 (eOp addX (Za 6) (eC (.int 1))))))
 (Zf (sIf (xOr (Xl (xB (ZB 1 Ja [] (Zb (eOp ixD (eOp ixD (Za 5) (Za 6)) (eC (.int 1))) eNil)))) (xB (eOp (Z6 λi j=>decide (j<i)) (Za 6) (eOp subD (eCB sumTD (Zb (eOp ixD (Za 2) (eC (.int 1))) eNil)) (eCB lenD (Zb (eOp ixD (Za 2) (eC (.int 1))) eNil)))))) (Zy (eC (.bl false))) sNext)
 (Zf (Zq 7 (eOp ixD (Za 5) (eUn Vr (eC (.int 1)))))
 (Zf (sIf (xB (eOp (Z6 λi j=>decide (j<i)) (eOp ixD (eOp ixD (eOp ixD (Za 5) (Za 6)) (eC (.int 1))) (eC (.int 0))) (eC (.int 1)))) (Zf (Zq 8 (eCB ZZ (Zb (ZF (ZH (eOp ixD (Za 7) (eC (.int 0)))) (Zw 0) (λ_=>some true) (eC (.int 1)) 1 []) eNil)))
 (sIf (xOr (xB (eOp neD (eCB lenD (Zb (Za 5) eNil)) (eOp addX (Za 6) (eC (.int 2))))) (xB (eOp neD (Za 7) (Yi (Zb (eOp ixD (eOp ixD (Za 5) (Za 6)) (eC (.int 0))) (Zb (Za 8) (Zb (eOp ixD (eOp ixD (Za 5) (Za 6)) (eC (.int 2))) eNil))))))) (Zy (eC (.bl false))) sNext)) (sIf (xB (eOp neD (eCB lenD (Zb (Za 5) eNil)) (eOp addX (Za 6) (eC (.int 1))))) (Zy (eC (.bl false))) sNext))
 (Zy (Vq (ZB 2 Zj4 [] (Zb (Za 7) (Zb (Za 1) eNil))) (Vq (ZB 1 Zj5 [] (Zb (Za 7) eNil)) (eOp (Z6 λi j=>decide (j<=i)) (eCB minQD (Zb (ZF (ZH (eOp ixD (Za 7) (eC (.int 2)))) (Zw 0) (λ_=>some true) (eCB lenD (Zb (Za 0) eNil)) 1 []) eNil)) (Za 1)))))))))))))))))
noncomputable def Zj8:List D->Option D:=run 9 f_QY
end K39
namespace K39
open PySem PySem.Spec L2 DL
def top(i:Nat):Stmt:=PySem.Challenge.pw_grooveway_k39_whole_webs_finished.main.body.getD i (.Pass ⟨0,0,0,0⟩)
abbrev Vg:Stmt:=top 1
abbrev VC:Stmt:=Zej (top 2) 0
abbrev V9:Stmt:=Zej (top 2) 1
abbrev Ua:Stmt:=top 4
abbrev Ub:Stmt:=top 5
abbrev Uc:Stmt:=top 6
abbrev XO:Stmt:=top 7
abbrev VD:Stmt:=top 8
abbrev XQ:Stmt:=top 9
abbrev Ud:Stmt:=top 10
abbrev Ue:Stmt:=top 11
abbrev Uf:Stmt:=top 13
abbrev Ug:Stmt:=top 14
abbrev VH:Stmt:=top 15
abbrev Uh:Stmt:=top 17
abbrev X1:Stmt:=top 16
abbrev VL:Stmt:=top 18
abbrev VN:Stmt:=top 19
abbrev Ui:Stmt:=top 20
abbrev Uj:Stmt:=top 21
abbrev Uk:Stmt:=top 22
abbrev Ul:Stmt:=top 23
abbrev Xn:Stmt:=top 24
abbrev Um:Stmt:=top 25
abbrev Xo:Stmt:=top 26
theorem ZkN:FnScope ["ways"] ["ways"] (defScope Vg):=⟨rfl,rfl,rfl,by decide +kernel,rfl,by decide +kernel,by decide +kernel⟩
theorem ZkO:FnScope ["self", "homes", "weights", "ways"] ["self", "homes", "weights", "ways"] (defScope VC):=⟨rfl,rfl,rfl,by decide +kernel,rfl,by decide +kernel,by decide +kernel⟩
theorem ZkP:FnScope ["self"] ["self"] (defScope V9):=⟨rfl,rfl,rfl,by decide +kernel,rfl,by decide +kernel,by decide +kernel⟩
theorem ZkQ:FnScope ["web"] ["web"] (defScope Ua):=⟨rfl,rfl,rfl,by decide +kernel,rfl,by decide +kernel,by decide +kernel⟩
theorem ZkR:FnScope ["web", "place", "number", "way"] ["web", "place"] (defScope Ub):=⟨rfl,rfl,rfl,by decide +kernel,rfl,by decide +kernel,by decide +kernel⟩
theorem ZkS:FnScope ["numbers", "n", "ends", "total", "place", "number"] ["numbers", "n"] (defScope Uc):=⟨rfl,rfl,rfl,by decide +kernel,rfl,by decide +kernel,by decide +kernel⟩
theorem ZkT:FnScope ["web", "n", "heaviest", "heavy", "place", "lesser", "others", "numbers", "piece"] ["web", "n"] (defScope XO):=⟨rfl,rfl,rfl,by decide +kernel,rfl,by decide +kernel,by decide +kernel⟩
theorem ZkU:FnScope ["ways", "place", "new", "told", "way"] ["ways", "place", "new"] (defScope VD):=⟨rfl,rfl,rfl,by decide +kernel,rfl,by decide +kernel,by decide +kernel⟩
theorem ZkV:FnScope ["web", "n", "place", "picks", "own", "picked", "others", "share", "new", "ways", "weights", "homes"] ["web", "n", "place", "picks"] (defScope XQ):=⟨rfl,rfl,rfl,by decide +kernel,rfl,by decide +kernel,by decide +kernel⟩
theorem ZkW:FnScope ["web"] ["web"] (defScope Ud):=⟨rfl,rfl,rfl,by decide +kernel,rfl,by decide +kernel,by decide +kernel⟩
theorem ZkX:FnScope ["web", "n", "webs", "chosen"] ["web", "n"] (defScope Ue):=⟨rfl,rfl,rfl,by decide +kernel,rfl,by decide +kernel,by decide +kernel⟩
theorem ZkY:FnScope ["script", "k"] ["script", "k"] (defScope Uf):=⟨rfl,rfl,rfl,by decide +kernel,rfl,by decide +kernel,by decide +kernel⟩
theorem ZkZ:FnScope ["k"] ["k"] (defScope Ug):=⟨rfl,rfl,rfl,by decide +kernel,rfl,by decide +kernel,by decide +kernel⟩
theorem Zk0:FnScope ["weights", "rows", "place", "n"] ["weights", "rows", "place", "n"] (defScope VH):=⟨rfl,rfl,rfl,by decide +kernel,rfl,by decide +kernel,by decide +kernel⟩
theorem Zk1:FnScope ["row", "twice", "named", "k", "number", "beside"] ["row", "twice"] (defScope Uh):=⟨rfl,rfl,rfl,by decide +kernel,rfl,by decide +kernel,by decide +kernel⟩
theorem Zk2:FnScope ["script", "at", "n", "many", "weights", "homes", "rows", "k", "place", "to", "ways"] ["script", "at", "n"] (defScope X1):=⟨rfl,rfl,rfl,by decide +kernel,rfl,by decide +kernel,by decide +kernel⟩
theorem Zk3:FnScope ["script", "told", "parts", "web", "row", "part"] ["script", "told"] (defScope VL):=⟨rfl,rfl,rfl,by decide +kernel,rfl,by decide +kernel,by decide +kernel⟩
theorem Zk4:FnScope ["told", "n", "homes", "weights", "ways", "place"] ["told", "n"] (defScope VN):=⟨rfl,rfl,rfl,by decide +kernel,rfl,by decide +kernel,by decide +kernel⟩
theorem Zk5:FnScope ["ways", "place", "seen", "ahead", "way"] ["ways", "place"] (defScope Ui):=⟨rfl,rfl,rfl,by decide +kernel,rfl,by decide +kernel,by decide +kernel⟩
theorem Zk6:FnScope ["told", "place"] ["told"] (defScope Uj):=⟨rfl,rfl,rfl,by decide +kernel,rfl,by decide +kernel,by decide +kernel⟩
theorem Zk7:FnScope ["web"] ["web"] (defScope Uk):=⟨rfl,rfl,rfl,by decide +kernel,rfl,by decide +kernel,by decide +kernel⟩
theorem Zk8:FnScope ["row", "place", "new", "twice", "block", "to"] ["row", "place", "new"] (defScope Ul):=⟨rfl,rfl,rfl,by decide +kernel,rfl,by decide +kernel,by decide +kernel⟩
theorem Zk9:FnScope ["one", "two", "n", "new", "fallen", "place", "mine", "rest", "rows"] ["one", "two", "n"] (defScope Xn):=⟨rfl,rfl,rfl,by decide +kernel,rfl,by decide +kernel,by decide +kernel⟩
theorem Zla:FnScope ["weights"] ["weights"] (defScope Um):=⟨rfl,rfl,rfl,by decide +kernel,rfl,by decide +kernel,by decide +kernel⟩
theorem Zlb:FnScope ["script", "n", "told", "web", "webs", "rows", "at", "last", "even"] ["script"] (defScope Xo):=⟨rfl,rfl,rfl,by decide +kernel,rfl,by decide +kernel,by decide +kernel⟩
structure Adr where
 a_QP:Addr
 d_QP:FuncData
 a_QS:Addr
 d_QS:FuncData
 a_QQ:Addr
 d_QQ:FuncData
 a_QN:Addr
 d_QN:FuncData
 a_QE:Addr
 d_QE:FuncData
 a_QH:Addr
 d_QH:FuncData
 a_QV:Addr
 d_QV:FuncData
 a_QU:Addr
 d_QU:FuncData
 a_QX:Addr
 d_QX:FuncData
 a_QW:Addr
 d_QW:FuncData
 a_QT:Addr
 d_QT:FuncData
 a_QB:Addr
 d_QB:FuncData
 a_QL:Addr
 d_QL:FuncData
 a_QK:Addr
 d_QK:FuncData
 a_QF:Addr
 d_QF:FuncData
 a_QR:Addr
 d_QR:FuncData
 a_QD:Addr
 d_QD:FuncData
 a_QG:Addr
 d_QG:FuncData
 a_QC:Addr
 d_QC:FuncData
 a_QM:Addr
 d_QM:FuncData
 a_QO:Addr
 d_QO:FuncData
 a_QJ:Addr
 d_QJ:FuncData
 a_QA:Addr
 d_QA:FuncData
 a_QI:Addr
 d_QI:FuncData
 a_QY:Addr
 d_QY:FuncData
 c_Web:Addr
def Adr.c(t:Adr):String->Addr:=λc=>if c = "Web" then t.c_Web else 0
structure Txt(K:PySem.W.Frag)(mg:Str->Option Value)(t:Adr):Prop where
 f_QP:FunX K "kept_ways" "kept_ways" Vg t.a_QP t.d_QP
 b_QP:Binds K t.d_QP ["ways"] []
 g_QP:mg "kept_ways" = some (.ref t.a_QP)
 k_QP:keepIn K (.ref t.a_QP)=true
 f_QS:FunX K "__init__" "Web.__init__" VC t.a_QS t.d_QS
 b_QS:Binds K t.d_QS ["self", "homes", "weights", "ways"] []
 k_QS:keepIn K (.ref t.a_QS)=true
 f_QQ:FunX K "many" "Web.many" V9 t.a_QQ t.d_QQ
 b_QQ:Binds K t.d_QQ ["self"] []
 k_QQ:keepIn K (.ref t.a_QQ)=true
 f_QN:FunX K "all_alike" "all_alike" Ua t.a_QN t.d_QN
 b_QN:Binds K t.d_QN ["web"] []
 g_QN:mg "all_alike" = some (.ref t.a_QN)
 k_QN:keepIn K (.ref t.a_QN)=true
 f_QE:FunX K "lesser_way" "lesser_way" Ub t.a_QE t.d_QE
 b_QE:Binds K t.d_QE ["web", "place"] []
 g_QE:mg "lesser_way" = some (.ref t.a_QE)
 k_QE:keepIn K (.ref t.a_QE)=true
 f_QH:FunX K "even_piece" "even_piece" Uc t.a_QH t.d_QH
 b_QH:Binds K t.d_QH ["numbers", "n"] []
 g_QH:mg "even_piece" = some (.ref t.a_QH)
 k_QH:keepIn K (.ref t.a_QH)=true
 f_QV:FunX K "choice" "choice" XO t.a_QV t.d_QV
 b_QV:Binds K t.d_QV ["web", "n"] []
 g_QV:mg "choice" = some (.ref t.a_QV)
 k_QV:keepIn K (.ref t.a_QV)=true
 f_QU:FunX K "doubled" "doubled" VD t.a_QU t.d_QU
 b_QU:Binds K t.d_QU ["ways", "place", "new"] []
 g_QU:mg "doubled" = some (.ref t.a_QU)
 k_QU:keepIn K (.ref t.a_QU)=true
 f_QX:FunX K "split" "split" XQ t.a_QX t.d_QX
 b_QX:Binds K t.d_QX ["web", "n", "place", "picks"] []
 g_QX:mg "split" = some (.ref t.a_QX)
 k_QX:keepIn K (.ref t.a_QX)=true
 f_QW:FunX K "evened" "evened" Ud t.a_QW t.d_QW
 b_QW:Binds K t.d_QW ["web"] []
 g_QW:mg "evened" = some (.ref t.a_QW)
 k_QW:keepIn K (.ref t.a_QW)=true
 f_QT:FunX K "finished" "finished" Ue t.a_QT t.d_QT
 b_QT:Binds K t.d_QT ["web", "n"] []
 g_QT:mg "finished" = some (.ref t.a_QT)
 k_QT:keepIn K (.ref t.a_QT)=true
 f_QB:FunX K "_law_cell_at" "_law_cell_at" Uf t.a_QB t.d_QB
 b_QB:Binds K t.d_QB ["script", "k"] []
 g_QB:mg "_law_cell_at" = some (.ref t.a_QB)
 k_QB:keepIn K (.ref t.a_QB)=true
 f_QL:FunX K "_law_block" "_law_block" Ug t.a_QL t.d_QL
 b_QL:Binds K t.d_QL ["k"] []
 g_QL:mg "_law_block" = some (.ref t.a_QL)
 k_QL:keepIn K (.ref t.a_QL)=true
 f_QK:FunX K "_law_borne" "_law_borne" VH t.a_QK t.d_QK
 b_QK:Binds K t.d_QK ["weights", "rows", "place", "n"] []
 g_QK:mg "_law_borne" = some (.ref t.a_QK)
 k_QK:keepIn K (.ref t.a_QK)=true
 f_QF:FunX K "_law_named" "_law_named" Uh t.a_QF t.d_QF
 b_QF:Binds K t.d_QF ["row", "twice"] []
 g_QF:mg "_law_named" = some (.ref t.a_QF)
 k_QF:keepIn K (.ref t.a_QF)=true
 f_QR:FunX K "_law_web" "_law_web" X1 t.a_QR t.d_QR
 b_QR:Binds K t.d_QR ["script", "at", "n"] []
 g_QR:mg "_law_web" = some (.ref t.a_QR)
 k_QR:keepIn K (.ref t.a_QR)=true
 f_QD:FunX K "_law_handed" "_law_handed" VL t.a_QD t.d_QD
 b_QD:Binds K t.d_QD ["script", "told"] []
 g_QD:mg "_law_handed" = some (.ref t.a_QD)
 k_QD:keepIn K (.ref t.a_QD)=true
 f_QG:FunX K "_law_bears" "_law_bears" VN t.a_QG t.d_QG
 b_QG:Binds K t.d_QG ["told", "n"] []
 g_QG:mg "_law_bears" = some (.ref t.a_QG)
 k_QG:keepIn K (.ref t.a_QG)=true
 f_QC:FunX K "_law_come_to" "_law_come_to" Ui t.a_QC t.d_QC
 b_QC:Binds K t.d_QC ["ways", "place"] []
 g_QC:mg "_law_come_to" = some (.ref t.a_QC)
 k_QC:keepIn K (.ref t.a_QC)=true
 f_QM:FunX K "_law_tied" "_law_tied" Uj t.a_QM t.d_QM
 b_QM:Binds K t.d_QM ["told"] []
 g_QM:mg "_law_tied" = some (.ref t.a_QM)
 k_QM:keepIn K (.ref t.a_QM)=true
 f_QO:FunX K "_law_told" "_law_told" Uk t.a_QO t.d_QO
 b_QO:Binds K t.d_QO ["web"] []
 g_QO:mg "_law_told" = some (.ref t.a_QO)
 k_QO:keepIn K (.ref t.a_QO)=true
 f_QJ:FunX K "_law_twice" "_law_twice" Ul t.a_QJ t.d_QJ
 b_QJ:Binds K t.d_QJ ["row", "place", "new"] []
 g_QJ:mg "_law_twice" = some (.ref t.a_QJ)
 k_QJ:keepIn K (.ref t.a_QJ)=true
 f_QA:FunX K "_law_one_split" "_law_one_split" Xn t.a_QA t.d_QA
 b_QA:Binds K t.d_QA ["one", "two", "n"] []
 g_QA:mg "_law_one_split" = some (.ref t.a_QA)
 k_QA:keepIn K (.ref t.a_QA)=true
 f_QI:FunX K "_law_alike" "_law_alike" Um t.a_QI t.d_QI
 b_QI:Binds K t.d_QI ["weights"] []
 g_QI:mg "_law_alike" = some (.ref t.a_QI)
 k_QI:keepIn K (.ref t.a_QI)=true
 f_QY:FunX K "law" "law" Xo t.a_QY t.d_QY
 b_QY:Binds K t.d_QY ["script"] []
 g_QY:mg "law" = some (.ref t.a_QY)
 k_QY:keepIn K (.ref t.a_QY)=true
 n_all:mg "all" = none
 n_enumerate:mg "enumerate" = none
 n_isinstance:mg "isinstance" = none
 n_len:mg "len" = none
 n_list:mg "list" = none
 n_max:mg "max" = none
 n_min:mg "min" = none
 n_range:mg "range" = none
 n_sorted:mg "sorted" = none
 n_sum:mg "sum" = none
 n_tuple:mg "tuple" = none
 g_Web:mg "Web" = some (.ref t.c_Web)
 cl_Web:Cls K t.c_Web
 ci_Web:ClsI K t.c_Web
 mk_Web:Mk K t.c_Web t.a_QS
 fl_homes:QW K ⟨t.c,K⟩ XZ "homes"
 fl_ways:QW K ⟨t.c,K⟩ Y6 "ways"
 fl_weights:QW K ⟨t.c,K⟩ Yj "weights"
 me_Web_many:Meth K t.c_Web (Str.ofString "many") t.a_QQ
 isi_list:IsiOk K ⟨t.c,K⟩ (.type "list") JY
 isi_tuple:IsiOk K ⟨t.c,K⟩ (.type "tuple") Q7
end K39
namespace K39
open PySem PySem.W L2 HT
def kP:Params->PySem.W.Frag:=λP=>
 (nat_lit 2,dO .none [] 0) ::
 (nat_lit 3,dO (.type "dict") [de P "__name__" 165 (.str "law_grooveway_k39_whole_webs_finished" 297),de P "__doc__" 166 .none,de P "__package__" 167 .none,de P "__loader__" 168 (.builtin "__main__.__loader__#opaque"),de P "__spec__" 169 .none,de P "__annotations__" 170 (.ref 6),de P "__builtins__" 171 (.ref 4),de P "__file__" 173 (.str "/claim/cut.py" 172),de P "__cached__" 174 .none,de P "kept_ways" 194 (.ref 19),de P "Web" 230 (.ref 41),de P "all_alike" 239 (.ref 52),de P "lesser_way" 249 (.ref 59),de P "even_piece" 261 (.ref 66),de P "choice" 267 (.ref 71),de P "doubled" 273 (.ref 76),de P "split" 279 (.ref 81),de P "evened" 286 (.ref 88),de P "finished" 296 (.ref 95),de P "_law_cell_at" 306 (.ref 102),de P "_law_block" 313 (.ref 109),de P "_law_borne" 319 (.ref 114),de P "_law_web" 325 (.ref 119),de P "_law_named" 337 (.ref 126),de P "_law_handed" 343 (.ref 131),de P "_law_bears" 349 (.ref 136),de P "_law_come_to" 360 (.ref 143),de P "_law_tied" 368 (.ref 150),de P "_law_told" 375 (.ref 157),de P "_law_twice" 387 (.ref 164),de P "_law_one_split" 393 (.ref 169),de P "_law_alike" 400 (.ref 176),de P "law" 406 (.ref 181)] 33) ::
 (nat_lit 18,c3 "kept_ways" "kept_ways" 189 2 1 3 15 16 .none .none 17 192 193) ::
 (nat_lit 19,f3 "kept_ways" "kept_ways" Vg "grooveway.web" 187 18) ::
 (nat_lit 30,c3 "__init__" "Web.__init__" 207 8 4 3 27 28 .none .none 29 210 211) ::
 (nat_lit 31,f3 "__init__" "Web.__init__" VC "grooveway.web" 187 30) ::
 (nat_lit 37,c3 "many" "Web.many" 213 13 1 3 32 33 (.ref 34) (.ref 35) 36 217 218) ::
 (nat_lit 38,f3 "many" "Web.many" V9 "grooveway.web" 187 37) ::
 (nat_lit 40,dO (.type "dict") [de P "__module__" 202 (.str "grooveway.web" 187),de P "__firstlineno__" 206 (.int 6 205),de P "__init__" 212 (.ref 31),de P "many" 219 (.ref 38),de P "__static_attributes__" 223 (.ref 39),de P "__dict__" 225 (.ref 42),de P "__weakref__" 227 (.ref 43),de P "__doc__" 228 .none] 4) ::
 (nat_lit 41,⟨(.type "type"),none,.cls ⟨"Web",[(.type "object")],[(.ref 41),(.type "object")],40, "Web",true,[],[],false,none,false⟩,#[none,none,some (.str "Web" 195),some (.str "Web" 203),some (.builtin "object.__new__"),some (.bool true)]⟩) ::
 (nat_lit 42,⟨(.type "getset_descriptor"),none,.fields #[(.str "__dict__" 224),(.ref 41),(.builtin "function.__dict__"),(.builtin "function.__dict__#set")],#[]⟩) ::
 (nat_lit 43,⟨(.type "getset_descriptor"),none,.fields #[(.str "__weakref__" 226),(.ref 41),(.builtin "ExceptionGroup.__weakref__"),.none],#[]⟩) ::
 (nat_lit 51,c3 "all_alike" "all_alike" 233 16 1 3 46 47 (.ref 48) (.ref 49) 50 237 238) ::
 (nat_lit 52,f3 "all_alike" "all_alike" Ua "grooveway.split" 231 51) ::
 (nat_lit 58,c3 "lesser_way" "lesser_way" 240 18 2 3 53 54 (.ref 55) (.ref 56) 57 247 248) ::
 (nat_lit 59,f3 "lesser_way" "lesser_way" Ub "grooveway.split" 231 58) ::
 (nat_lit 65,c3 "even_piece" "even_piece" 250 23 2 3 60 61 (.ref 62) (.ref 63) 64 259 260) ::
 (nat_lit 66,f3 "even_piece" "even_piece" Uc "grooveway.split" 231 65) ::
 (nat_lit 70,c3 "choice" "choice" 262 32 2 3 67 68 .none .none 69 265 266) ::
 (nat_lit 71,f3 "choice" "choice" XO "grooveway.split" 231 70) ::
 (nat_lit 75,c3 "doubled" "doubled" 268 43 3 3 72 73 .none .none 74 271 272) ::
 (nat_lit 76,f3 "doubled" "doubled" VD "grooveway.split" 231 75) ::
 (nat_lit 80,c3 "split" "split" 274 52 4 3 77 78 .none .none 79 277 278) ::
 (nat_lit 81,f3 "split" "split" XQ "grooveway.split" 231 80) ::
 (nat_lit 87,c3 "evened" "evened" 280 64 1 3 82 83 (.ref 84) (.ref 85) 86 284 285) ::
 (nat_lit 88,f3 "evened" "evened" Ud "grooveway.split" 231 87) ::
 (nat_lit 94,c3 "finished" "finished" 287 66 2 3 89 90 (.ref 91) (.ref 92) 93 294 295) ::
 (nat_lit 95,f3 "finished" "finished" Ue "grooveway.split" 231 94) ::
 (nat_lit 101,c3 "_law_cell_at" "_law_cell_at" 299 76 2 3 96 97 (.ref 98) (.ref 99) 100 304 305) ::
 (nat_lit 102,f3 "_law_cell_at" "_law_cell_at" Uf "law_grooveway_k39_whole_webs_finished" 297 101) ::
 (nat_lit 108,c3 "_law_block" "_law_block" 307 80 1 3 103 104 (.ref 105) (.ref 106) 107 311 312) ::
 (nat_lit 109,f3 "_law_block" "_law_block" Ug "law_grooveway_k39_whole_webs_finished" 297 108) ::
 (nat_lit 113,c3 "_law_borne" "_law_borne" 314 82 4 3 110 111 .none .none 112 317 318) ::
 (nat_lit 114,f3 "_law_borne" "_law_borne" VH "law_grooveway_k39_whole_webs_finished" 297 113) ::
 (nat_lit 118,c3 "_law_web" "_law_web" 320 84 3 3 115 116 .none .none 117 323 324) ::
 (nat_lit 119,f3 "_law_web" "_law_web" X1 "law_grooveway_k39_whole_webs_finished" 297 118) ::
 (nat_lit 125,c3 "_law_named" "_law_named" 326 102 2 3 120 121 (.ref 122) (.ref 123) 124 335 336) ::
 (nat_lit 126,f3 "_law_named" "_law_named" Uh "law_grooveway_k39_whole_webs_finished" 297 125) ::
 (nat_lit 130,c3 "_law_handed" "_law_handed" 338 111 2 3 127 128 .none .none 129 341 342) ::
 (nat_lit 131,f3 "_law_handed" "_law_handed" VL "law_grooveway_k39_whole_webs_finished" 297 130) ::
 (nat_lit 135,c3 "_law_bears" "_law_bears" 344 121 2 3 132 133 .none .none 134 347 348) ::
 (nat_lit 136,f3 "_law_bears" "_law_bears" VN "law_grooveway_k39_whole_webs_finished" 297 135) ::
 (nat_lit 142,c3 "_law_come_to" "_law_come_to" 350 127 2 3 137 138 (.ref 139) (.ref 140) 141 358 359) ::
 (nat_lit 143,f3 "_law_come_to" "_law_come_to" Ui "law_grooveway_k39_whole_webs_finished" 297 142) ::
 (nat_lit 149,c3 "_law_tied" "_law_tied" 361 136 1 3 144 145 (.ref 146) (.ref 147) 148 366 367) ::
 (nat_lit 150,f3 "_law_tied" "_law_tied" Uj "law_grooveway_k39_whole_webs_finished" 297 149) ::
 (nat_lit 156,c3 "_law_told" "_law_told" 369 141 1 3 151 152 (.ref 153) (.ref 154) 155 373 374) ::
 (nat_lit 157,f3 "_law_told" "_law_told" Uk "law_grooveway_k39_whole_webs_finished" 297 156) ::
 (nat_lit 163,c3 "_law_twice" "_law_twice" 376 143 3 3 158 159 (.ref 160) (.ref 161) 162 385 386) ::
 (nat_lit 164,f3 "_law_twice" "_law_twice" Ul "law_grooveway_k39_whole_webs_finished" 297 163) ::
 (nat_lit 168,c3 "_law_one_split" "_law_one_split" 388 150 3 3 165 166 .none .none 167 391 392) ::
 (nat_lit 169,f3 "_law_one_split" "_law_one_split" Xn "law_grooveway_k39_whole_webs_finished" 297 168) ::
 (nat_lit 175,c3 "_law_alike" "_law_alike" 394 169 1 3 170 171 (.ref 172) (.ref 173) 174 398 399) ::
 (nat_lit 176,f3 "_law_alike" "_law_alike" Um "law_grooveway_k39_whole_webs_finished" 297 175) ::
 (nat_lit 180,c3 "law" "law" 401 171 1 3 177 178 .none .none 179 404 405) ::
 (nat_lit 181,f3 "law" "law" Xo "law_grooveway_k39_whole_webs_finished" 297 180)::[]
set_option maxHeartbeats 0 in
theorem Zlc:met PySem.Challenge.pw_grooveway_k39_whole_webs_finished=true:=by k_qdec
set_option maxHeartbeats 0 in
theorem Zld:met kP=true:=by k_qdec
set_option maxHeartbeats 0 in
theorem left:LeftO PySem.Challenge.pw_grooveway_k39_whole_webs_finished (view PySem.Challenge.pw_grooveway_k39_whole_webs_finished [1,2,4,5,6,7,8,9,10,11,13,14,15,16,17,18,19,20,21,22,23,24,25,26]) [] (λs=>xlAt (view PySem.Challenge.pw_grooveway_k39_whole_webs_finished [1,2,4,5,6,7,8,9,10,11,13,14,15,16,17,18,19,20,21,22,23,24,25,26]) [] s&&recOk PySem.Challenge.rw_grooveway_k39_whole_webs_finished.row.toRowW.records s) (λs=>([2,3,18,19,30,31,37,38,40,41,42,43,51,52,58,59,65,66,70,71,75,76,80,81,87,88,94,95,101,102,108,109,113,114,118,119,125,126,130,131,135,136,142,143,149,150,156,157,163,164,168,169,175,176,180,181]:List Addr).map s.heap.get?) (λw=>(kP w.params).map λp=>some p.2) 2010:=
 HT.left_of rfl rfl (λ_=>rfl) λw=>by
  have _:=Zlc;have _:=Zld;rewrite [PySem.W.Fast.te2441210509939438209,PySem.W.Fast.te9300781390667554847,PySem.W.Fast.te5923862056798008813,PySem.W.Fast.te4187177175401517315,PySem.W.Fast.te6613529449190102663,PySem.W.Fast.te10156331382660048174,PySem.W.Fast.te11892475500146522536,PySem.W.Fast.te14364793385576792824]
  kernel_rfl
theorem kP_as:∀P,([2,3,18,19,30,31,37,38,40,41,42,43,51,52,58,59,65,66,70,71,75,76,80,81,87,88,94,95,101,102,108,109,113,114,118,119,125,126,130,131,135,136,142,143,149,150,156,157,163,164,168,169,175,176,180,181]:List Addr)=(kP P).map (·.1):=λ_=>by kernel_rfl
end K39
namespace K39
open PySem PySem.Spec PyProof.Rows L2 DL
theorem nd0:List.Nodup (["way"]:List Str):=by decide +kernel
theorem nd1:List.Nodup (["own"]:List Str):=by decide +kernel
theorem nd2:List.Nodup (["web", "place", "number", "way"]:List Str):=by decide +kernel
theorem nd3:List.Nodup (["numbers", "n", "ends", "total", "place", "number"]:List Str):=by decide +kernel
theorem nd4:List.Nodup (["web", "n", "heaviest", "heavy", "place", "lesser", "others", "numbers", "piece"]:List Str):=by decide +kernel
theorem nd5:List.Nodup (["place", "web", "heaviest"]:List Str):=by decide +kernel
theorem nd6:List.Nodup (["each", "web"]:List Str):=by decide +kernel
theorem nd7:List.Nodup (["number", "lesser"]:List Str):=by decide +kernel
theorem nd8:List.Nodup (["number", "web", "place"]:List Str):=by decide +kernel
theorem nd9:List.Nodup (["ways", "place", "new", "told", "way"]:List Str):=by decide +kernel
theorem UK:List.Nodup (["web", "n", "place", "picks", "own", "picked", "others", "share", "new", "ways", "weights", "homes"]:List Str):=by decide +kernel
theorem Zj9:List.Nodup (["number", "way", "picks"]:List Str):=by decide +kernel
theorem Zmx:List.Nodup (["way", "web"]:List Str):=by decide +kernel
theorem Zmy:List.Nodup (["each", "place", "new"]:List Str):=by decide +kernel
theorem Zkq:List.Nodup (["web", "n", "webs", "chosen"]:List Str):=by decide +kernel
theorem Zmz:List.Nodup (["to", "weights"]:List Str):=by decide +kernel
theorem Jb:List.Nodup (["row", "twice", "named", "k", "number", "beside"]:List Str):=by decide +kernel
theorem Vh:List.Nodup (["script", "at", "n", "many", "weights", "homes", "rows", "k", "place", "to", "ways"]:List Str):=by decide +kernel
theorem Zl6:List.Nodup (["k", "script", "at"]:List Str):=by decide +kernel
theorem ZmA:List.Nodup (["k", "many"]:List Str):=by decide +kernel
theorem Zka:List.Nodup (["script", "told", "parts", "web", "row", "part"]:List Str):=by decide +kernel
theorem Zl7:List.Nodup (["row"]:List Str):=by decide +kernel
theorem Zkb:List.Nodup (["told", "n", "homes", "weights", "ways", "place"]:List Str):=by decide +kernel
theorem ZmB:List.Nodup (["way", "weights"]:List Str):=by decide +kernel
theorem Zkr:List.Nodup (["ways", "place", "seen", "ahead", "way"]:List Str):=by decide +kernel
theorem ZmC:List.Nodup (["told", "place"]:List Str):=by decide +kernel
theorem Zks:List.Nodup (["row", "place", "new", "twice", "block", "to"]:List Str):=by decide +kernel
theorem QA:List.Nodup (["one", "two", "n", "new", "fallen", "place", "mine", "rest", "rows"]:List Str):=by decide +kernel
theorem ZmD:List.Nodup (["k", "one", "two"]:List Str):=by decide +kernel
theorem Zl8:List.Nodup (["way", "one"]:List Str):=by decide +kernel
theorem Zl9:List.Nodup (["way", "two", "place"]:List Str):=by decide +kernel
theorem ZmE:List.Nodup (["row", "place", "new"]:List Str):=by decide +kernel
theorem Uo:List.Nodup (["script", "n", "told", "web", "webs", "rows", "at", "last", "even"]:List Str):=by decide +kernel
theorem ZmF:List.Nodup (["one"]:List Str):=by decide +kernel
theorem ZmG:List.Nodup (["home"]:List Str):=by decide +kernel
section
variable{P:Program}{w:World}{K:PySem.W.Frag}{mg:Str->Option Value}{base:Heap}{t:Adr}
theorem Zle(T:Txt K mg t):FnOk P w K mg base CX0 1 t.a_QP t.d_QP ["ways"] (spD ⟨t.c,K⟩ 1 U1):=by
 refine YJ (φ:=f_QP) T.f_QP ZkN (by conv=>lhs;whnf) (by conv=>lhs;whnf) (λcdv A outer s H E hr => ?_) rfl rfl;refine⟨_,(Zv (Yp (PW.pt (Ji (Ut (ZT (ZdZ (K:=K)) (by rfl) T.n_isinstance boot_isinstance (Ze (pv 0) (Ze (Zb2 (v:=.ty "tuple") (by rfl) T.n_tuple boot_tuple rfl) Zk)))) (Zb3 (Ut (ZT (ZkE (K:=K)) (by rfl) T.n_all boot_all (Ze (Xd (by rfl) (CompSc.mk' (tn:=["way"]) (cn:=[]) (js:=[]) (osc:=defScope Vg) (oN:=["ways"]) (by rfl) (by rfl) (by rfl) (by decide +kernel)) (YG (K:=K) (pv 0)) (λC s₂ H₂ fp=>ZP (i:=0) nd0) (λC s₂ H₂ fp=>YX) (λC s₂ H₂ fp=>(ZT (ZdZ (K:=K)) (by rfl) T.n_isinstance boot_isinstance (Ze (pv 0) (Ze (Zb2 (v:=.ty "tuple") (by rfl) T.n_tuple boot_tuple rfl) Zk))))) Zk)))))) (ZC (ZQ (pv 0))) Ys)
 (ZC (ZQ (YT (XC (K:=K)) (by rfl) T.n_tuple boot_tuple (Ze (Xd (by rfl) (CompSc.mk' (tn:=["way"]) (cn:=[]) (js:=[]) (osc:=defScope Vg) (oN:=["ways"]) (by rfl) (by rfl) (by rfl) (by decide +kernel)) (YG (K:=K) (pv 0)) (λC s₂ H₂ fp=>ZP (i:=0) nd0) (λC s₂ H₂ fp=>YX) (λC s₂ H₂ fp=>(YT (XC (K:=K)) (by rfl) T.n_tuple boot_tuple (Ze (pv 0) Zk)))) Zk))))),[],?_⟩
 unfold f_QP;exact(Zx (Yt (Jx (XT (Zd0 (λ_ h=>h) T.isi_tuple (Zc 0 (by rfl)))) (XT (Z1 Zju (Zg (VF.cl (YC (by rfl) (YN (Zc 0 (by rfl))) (Yg 0 (by rfl) (by rfl)) YZ (Zd0 (λ_ h=>h) T.isi_tuple (Zc 0 (by rfl))))) Zm)))) (ZS (Zc 0 (by rfl))) Yz)
 (ZS (XF (Zg (VF.cl (YC (by rfl) (YN (Zc 0 (by rfl))) (Yg 0 (by rfl) (by rfl)) YZ (XF (Zg (Zc 0 (by rfl)) Zm)))) Zm))))
theorem Zha(T:Txt K mg t):FnOk P w K mg base CX0 2 t.a_QS t.d_QS ["self", "homes", "weights", "ways"] (spI ⟨t.c,K⟩ 4 V8):=by
 have G_QP:=(Zle (P:=P) (w:=w) (base:=base) T).mono (k:=1) (by decide);refine ZkJ (φ:=f_QS) T.f_QS ZkO (by conv=>lhs;whnf) (by conv=>lhs;whnf) (λcdv A outer s H E self hr => ?_) rfl rfl;refine⟨_,(Zv (ZdV (pv 0) (YT (XC (K:=K)) (by rfl) T.n_tuple boot_tuple (Ze (pv 1) Zk)) (by rfl))
 (Zv (ZdV (pv 0) (YT (XC (K:=K)) (by rfl) T.n_tuple boot_tuple (Ze (pv 2) Zk)) (by rfl))
 (ZC (ZdV (pv 0) (YT (XC (K:=K)) (by rfl) T.n_tuple boot_tuple (Ze (Xd (by rfl) (CompSc.mk' (tn:=["own"]) (cn:=[]) (js:=[]) (osc:=defScope VC) (oN:=["self", "homes", "weights", "ways"]) (by rfl) (by rfl) (by rfl) (by decide +kernel)) (YG (K:=K) (pv 3)) (λC s₂ H₂ fp=>ZP (i:=0) nd1) (λC s₂ H₂ fp=>YX) (λC s₂ H₂ fp=>(Yb (G_QP) hr (by rfl) T.g_QP T.k_QP T.b_QP .nil Z3 (Ze (pv 0) Zk)))) Zk)) (by rfl))))),?_⟩
 unfold f_QS;exact(Zx (Zd1 0 (by rfl) T.fl_homes (XF (Zg (Zc 1 (by rfl)) Zm)))
 (Zx (Zd1 0 (by rfl) T.fl_weights (XF (Zg (Zc 2 (by rfl)) Zm)))
 (Zd1 0 (by rfl) T.fl_ways (XF (Zg (VF.cl (YC (by rfl) (YN (Zc 3 (by rfl))) (Yg 0 (by rfl) (by rfl)) YZ (Yd [] (by rfl) (Zg (Zc 0 (by rfl)) Zm)))) Zm)))))
theorem Zhb(T:Txt K mg t):FnOk P w K mg base CX0 1 t.a_QQ t.d_QQ ["self"] (spD ⟨t.c,K⟩ 1 JZ):=by
 refine YJ (φ:=f_QQ) T.f_QQ ZkP (by conv=>lhs;whnf) (by conv=>lhs;whnf) (λcdv A outer s H E hr => ?_) rfl rfl;refine⟨_,(ZC (ZQ (ZT (YL (K:=K)) (by rfl) T.n_len boot_len (Ze (YH (K:=K) (pv 0)) Zk)))),[],?_⟩;unfold f_QQ;exact(ZS (Z1 YM (Zg (YI T.fl_homes (Zc 0 (by rfl))) Zm)))
theorem Zlf(T:Txt K mg t):FnOk P w K mg base CX0 1 t.a_QN t.d_QN ["web"] (spD ⟨t.c,K⟩ 1 J0):=by
 refine YJ (φ:=f_QN) T.f_QN ZkQ (by conv=>lhs;whnf) (by conv=>lhs;whnf) (λcdv A outer s H E hr => ?_) rfl rfl;refine⟨_,(ZC (ZQ (QL (Vo (cA:=⟨t.c,K⟩) (hr.units)) (ZT (Q4 (K:=K)) (by rfl) T.n_min boot_min (Ze (YH (K:=K) (pv 0)) Zk)) (ZT (JL (K:=K)) (by rfl) T.n_max boot_max (Ze (YH (K:=K) (pv 0)) Zk)) (ZU _)))),[],?_⟩;unfold f_QN;exact(ZS (Zd Vp (Z1 Q5 (Zg (YI T.fl_weights (Zc 0 (by rfl))) Zm)) (Z1 JM (Zg (YI T.fl_weights (Zc 0 (by rfl))) Zm))))
theorem Zlg(T:Txt K mg t):FnOk P w K mg base CX0 1 t.a_QE t.d_QE ["web", "place"] (spD ⟨t.c,K⟩ 2 U2):=by
 refine YJ (φ:=f_QE) T.f_QE ZkR (by conv=>lhs;whnf) (by conv=>lhs;whnf) (λcdv A outer s H E hr => ?_) rfl rfl;refine⟨_,(Zv ((XB PassesOwn.never (by rfl) (Zbg (K:=K) (by rfl) T.n_enumerate (Zn (Zo (K:=K)) (YH (K:=K) (pv 0)) (pv 1) (λ_ _=>rfl))) (Qf (K:=K) (n:=2) (Xz (ZP (i:=2) nd2) (Xz (ZP (i:=3) nd2) U9))) (ZC (Yp (ZV US (Zn (Zo (K:=K)) (YH (K:=K) (pv 0)) (Zn (Zo (K:=K)) (pv 3) Zl (λ_ _=>rfl)) (λ_ _=>rfl)) (Zn (Zo (K:=K)) (YH (K:=K) (pv 0)) (pv 1) (λ_ _=>rfl)) (ZU _)) (ZC (ZQ (pv 2))) Ys))))
 (ZC (ZQ Zgq))),[],?_⟩
 unfold f_QE;exact(Zx (UB (Zbh (Zd Zp (YI T.fl_ways (Zc 0 (by rfl))) (Zc 1 (by rfl)))) (Qn (XG 2 (by rfl) (by rfl) (XG 3 (by rfl) (by rfl) Qm))) (Yt (ZX (Zd XD (Zd Zp (YI T.fl_weights (Zc 0 (by rfl))) (Zd Zp (Zc 3 (by rfl)) (Zj (d:=(.int 1)) (by rfl) (by rfl)))) (Zd Zp (YI T.fl_weights (Zc 0 (by rfl))) (Zc 1 (by rfl))))) (ZS (Zc 2 (by rfl))) Yz))
 (ZS (Zj (d:=.non) (by rfl) (by rfl))))
theorem Zlh(T:Txt K mg t):FnOk P w K mg base CX0 1 t.a_QH t.d_QH ["numbers", "n"] (spD ⟨t.c,K⟩ 2 J4):=by
 refine YJ (φ:=f_QH) T.f_QH ZkS (by conv=>lhs;whnf) (by conv=>lhs;whnf) (λcdv A outer s H E hr => ?_) rfl rfl;refine⟨_,(Zv (ZR (i:=2) nd3 (by rfl) (by first|exact Or.inl rfl|exact Or.inr rfl) (Zhx (ZfQ Zl Zl Zhw) (by rfl) (by rfl) (List.cons_ne_nil _ _) (Nat.le_of_ble_eq_true rfl)))
 (Zv (ZR (i:=3) nd3 (by rfl) (by first|exact Or.inl rfl|exact Or.inr rfl) Zl)
 (Zv ((XB PassesOwn.never (by rfl) (Zfg (K:=K) (by rfl) T.n_enumerate (pv 0)) (Qf (K:=K) (n:=2) (Xz (ZP (i:=4) nd3) (Xz (ZP (i:=5) nd3) U9))) (Zv (ZR (i:=3) nd3 (by rfl) (by first|exact Or.inl rfl|exact Or.inr rfl) (ZD (Yh (K:=K)) (pv 3) (pv 5)))
 (Zv (Yp (Jh (Zjr (Q3 hr.units) (ZD Y1 (pv 3) (pv 1)) (pv 2))) (ZC (ZQ (X5 (Ze (Zhv (Q3 hr.units) (pv 2) (ZD Y1 (pv 3) (pv 1)) (λ_ _=>rfl)) (Ze (pv 4) Zk))))) Ys)
 (ZC (Zen (Q3 hr.units) (pv 2) (ZD Y1 (pv 3) (pv 1)) (pv 4) (by rfl)))))))
 (ZC (ZQ (X5 (Ze Zl (Ze Zl Zk)))))))),[],?_⟩
 unfold f_QH;exact(Zx (show VS _ _ [2] _ _ _ _ from Zez 2 (ZfZ (Zj (d:=(.int 0)) (by rfl) (by rfl)) (Zj (d:=(.int 0)) (by rfl) (by rfl))) (by rfl) (by rfl) (by rfl) (by rfl))
 (Zx (show VS _ _ [2] _ _ _ _ from(ZY 3 (Zj (d:=(.int 0)) (by rfl) (by rfl)) (by rfl) (by rfl) (by rfl) (by rfl)))
 (Zx (UB (Zfh (Zc 0 (by rfl))) (Qn (XG 4 (by rfl) (by rfl) (XG 5 (by rfl) (by rfl) Qm))) (Zx (show VS _ _ [2] _ _ _ _ from(ZY 3 (Zd Yw (Zc 3 (by rfl)) (Zc 5 (by rfl))) (by rfl) (by rfl) (by rfl) (by rfl)))
 (Zx (Yt (XT (Zjy (Zd Y4 (Zc 3 (by rfl)) (Zc 1 (by rfl))) (Uz 2 (by rfl)))) (ZS (X9 (Zg (ZhN (Or.inr rfl) (Uz 2 (by rfl)) (Zd Y4 (Zc 3 (by rfl)) (Zc 1 (by rfl)))) (Zg (Zc 4 (by rfl)) Zm)))) Yz)
 (ZeA 2 (by rfl) (Zc 4 (by rfl)) (Zd Y4 (Zc 3 (by rfl)) (Zc 1 (by rfl)))))))
 (VS.frz (ow1:=[]) 2 (ZS (X9 (Zg (Zj (d:=(.int 0)) (by rfl) (by rfl)) (Zg (Zj (d:=(.int 0)) (by rfl) (by rfl)) Zm)))) (by rfl) (by rfl) (by rfl) (by rfl)))))
theorem Zli(T:Txt K mg t):FnOk P w K mg base CX0 2 t.a_QV t.d_QV ["web", "n"] (spD ⟨t.c,K⟩ 2 X0):=by
 have G_QQ:=(Zhb (P:=P) (w:=w) (base:=base) T).mono (k:=1) (by decide);have G_QN:=(Zlf (P:=P) (w:=w) (base:=base) T).mono (k:=1) (by decide);have G_QH:=(Zlh (P:=P) (w:=w) (base:=base) T).mono (k:=1) (by decide);have G_QE:=(Zlg (P:=P) (w:=w) (base:=base) T).mono (k:=1) (by decide);refine YJ (φ:=f_QV) T.f_QV ZkT (by conv=>lhs;whnf) (by conv=>lhs;whnf) (λcdv A outer s H E hr => ?_) rfl rfl
 refine⟨_,(Zv (Yp (Ut (Yb (G_QN) hr (by rfl) T.g_QN T.k_QN T.b_QN .nil Z3 (Ze (pv 0) Zk))) (ZC (ZQ Zgq)) Ys)
 (Zv (ZR (i:=2) nd4 (by rfl) (by first|exact Or.inl rfl|exact Or.inr rfl) (ZT (JL (K:=K)) (by rfl) T.n_max boot_max (Ze (YH (K:=K) (pv 0)) Zk)))
 (Zv (Vb (i:=3) nd4 (by rfl) (by rfl) (by rfl) (CompSc.mk' (tn:=["place"]) (cn:=["web", "heaviest"]) (js:=[0,2]) (osc:=defScope XO) (oN:=["web", "n", "heaviest", "heavy", "place", "lesser", "others", "numbers", "piece"]) (by rfl) (by rfl) (by rfl) (by decide +kernel)) (X4 (by rfl) T.n_range (Ze (ZaG (cA:=⟨t.c,K⟩) (tab:=VB) (m:="many") ⟨⟨t.a_QQ,t.d_QQ,["self"],T.cl_Web,T.me_Web_many,G_QQ,T.b_QQ⟩,trivial⟩ hr (pv 0)) Zk)) (λC s₂ H₂ fp=>ZP (i:=0) nd5) (λC s₂ H₂ fp=>(Uy (ZV (Vo (cA:=⟨t.c,K⟩) (hr.units)) (Zn (Zo (K:=K)) (YH (K:=K) (pv 1)) (pv 0) (λ_ _=>rfl)) (pv 2) (ZU _)))) (λC s₂ H₂ fp=>(pv 0)))
 (Zv (ZR (i:=4) nd4 (by rfl) (by first|exact Or.inl rfl|exact Or.inr rfl) (Zn (Zo (K:=K)) (Xd (by rfl) (CompSc.mk' (tn:=["each"]) (cn:=["web"]) (js:=[0]) (osc:=defScope XO) (oN:=["web", "n", "heaviest", "heavy", "place", "lesser", "others", "numbers", "piece"]) (by rfl) (by rfl) (by rfl) (by decide +kernel)) (YG (K:=K) (pv 3)) (λC s₂ H₂ fp=>ZP (i:=0) nd6) (λC s₂ H₂ fp=>(Uy (Jh (Zed (Yb (G_QE) hr (by rfl) T.g_QE T.k_QE T.b_QE .nil Z3 (Ze (pv 1) (Ze (pv 0) Zk))))))) (λC s₂ H₂ fp=>(pv 0))) Zl (λ_ _=>rfl)))
 (Zv (ZR (i:=5) nd4 (by rfl) (by first|exact Or.inl rfl|exact Or.inr rfl) (Yb (G_QE) hr (by rfl) T.g_QE T.k_QE T.b_QE .nil Z3 (Ze (pv 0) (Ze (pv 4) Zk))))
 (Zv (Vb (i:=6) nd4 (by rfl) (by rfl) (by rfl) (CompSc.mk' (tn:=["number"]) (cn:=["lesser"]) (js:=[5]) (osc:=defScope XO) (oN:=["web", "n", "heaviest", "heavy", "place", "lesser", "others", "numbers", "piece"]) (by rfl) (by rfl) (by rfl) (by decide +kernel)) (X4 (by rfl) T.n_range (Ze (ZT (YL (K:=K)) (by rfl) T.n_len boot_len (Ze (Zn (Zo (K:=K)) (YH (K:=K) (pv 0)) (pv 4) (λ_ _=>rfl)) Zk)) Zk)) (λC s₂ H₂ fp=>ZP (i:=0) nd7) (λC s₂ H₂ fp=>(Uy (ZV (Y9 (cA:=⟨t.c,K⟩) (hr.units)) (pv 0) (pv 1) (ZU _)))) (λC s₂ H₂ fp=>(pv 0)))
 (Zv (ZR (i:=7) nd4 (by rfl) (by first|exact Or.inl rfl|exact Or.inr rfl) (ZT (ZhO (K:=K)) (by rfl) T.n_sorted boot_sorted (Ze (ZD (Yh (K:=K)) (ZcN (ZlX (K:=K)) (pv 6) Zhn (Zb4 (ZD Jn (pv 1) Zl))) (Xq (Ze (pv 5) Zk))) Zk)))
 (Zv (ZR (i:=8) nd4 (by rfl) (by first|exact Or.inl rfl|exact Or.inr rfl) (Yb (G_QH) hr (by rfl) T.g_QH T.k_QH T.b_QH .nil Z3 (Ze (Xd (by rfl) (CompSc.mk' (tn:=["number"]) (cn:=["web", "place"]) (js:=[0,4]) (osc:=defScope XO) (oN:=["web", "n", "heaviest", "heavy", "place", "lesser", "others", "numbers", "piece"]) (by rfl) (by rfl) (by rfl) (by decide +kernel)) (YG (K:=K) (pv 7)) (λC s₂ H₂ fp=>ZP (i:=0) nd8) (λC s₂ H₂ fp=>YX) (λC s₂ H₂ fp=>(Zn (Zo (K:=K)) (YH (K:=K) (pv 1)) (Zn (Zo (K:=K)) (Zn (Zo (K:=K)) (Zn (Zo (K:=K)) (YH (K:=K) (pv 1)) (pv 2) (λ_ _=>rfl)) (pv 0) (λ_ _=>rfl)) Zl (λ_ _=>rfl)) (λ_ _=>rfl)))) (Ze (pv 1) Zk))))
 (ZC (ZQ (X5 (Ze (pv 4) (Ze (ZcN (ZlX (K:=K)) (pv 7) (Zb4 (Zn (Zo (K:=K)) (pv 8) Zl (λ_ _=>rfl))) (Zb4 (Zn (Zo (K:=K)) (pv 8) Zl (λ_ _=>rfl)))) Zk))))))))))))),[],?_⟩
 unfold f_QV;exact(Zx (Yt (XT (Yd [] (by rfl) (Zg (Zc 0 (by rfl)) Zm))) (ZS (Zj (d:=.non) (by rfl) (by rfl))) Yz)
 (Zx (show VS _ _ [] _ _ _ _ from(ZY 2 (Z1 JM (Zg (YI T.fl_weights (Zc 0 (by rfl))) Zm)) (by rfl) (by rfl) (by rfl) (by rfl)))
 (Zx (show VS _ _ [] _ _ _ _ from(ZY 3 (VF.cl (YC (by rfl) (Vw (Zg (Zb8 (Zc 0 (by rfl)) Zm) Zm) XU) (Yg 0 (by rfl) (by rfl)) (ZX (Zd Vp (Zd Zp (YI T.fl_weights (Zc 1 (by rfl))) (Zc 0 (by rfl))) (Zc 2 (by rfl)))) (Zc 0 (by rfl)))) (by rfl) (by rfl) (by rfl) (by rfl)))
 (Zx (show VS _ _ [] _ _ _ _ from(ZY 4 (Zd Zp (VF.cl (YC (by rfl) (YN (Zc 3 (by rfl))) (Yg 0 (by rfl) (by rfl)) (XT (Zeq (Yd [] (by rfl) (Zg (Zc 1 (by rfl)) (Zg (Zc 0 (by rfl)) Zm))))) (Zc 0 (by rfl)))) (Zj (d:=(.int 0)) (by rfl) (by rfl))) (by rfl) (by rfl) (by rfl) (by rfl)))
 (Zx (show VS _ _ [] _ _ _ _ from(ZY 5 (Yd [] (by rfl) (Zg (Zc 0 (by rfl)) (Zg (Zc 4 (by rfl)) Zm))) (by rfl) (by rfl) (by rfl) (by rfl)))
 (Zx (show VS _ _ [] _ _ _ _ from(ZY 6 (VF.cl (YC (by rfl) (Vw (Zg (Z1 YM (Zg (Zd Zp (YI T.fl_ways (Zc 0 (by rfl))) (Zc 4 (by rfl))) Zm)) Zm) XU) (Yg 0 (by rfl) (by rfl)) (ZX (Zd Xa (Zc 0 (by rfl)) (Zc 1 (by rfl)))) (Zc 0 (by rfl)))) (by rfl) (by rfl) (by rfl) (by rfl)))
 (Zx (show VS _ _ [] _ _ _ _ from(ZY 7 (VF.cl (ZhQ (Or.inl rfl) (Zg (VF.cl (Q6 (ZiK (Or.inl rfl) (Zc 6 (by rfl)) ZhB (Zb7 (Zd Jw (Zc 1 (by rfl)) (Zj (d:=(.int 1)) (by rfl) (by rfl))))) (VF.cl (XE (Zg (Zc 5 (by rfl)) Zm))))) Zm))) (by rfl) (by rfl) (by rfl) (by rfl)))
 (Zx (show VS _ _ [] _ _ _ _ from(ZY 8 (Yd [] (by rfl) (Zg (VF.cl (YC (by rfl) (YN (Zc 7 (by rfl))) (Yg 0 (by rfl) (by rfl)) YZ (Zd Zp (YI T.fl_weights (Zc 1 (by rfl))) (Zd Zp (Zd Zp (Zd Zp (YI T.fl_ways (Zc 1 (by rfl))) (Zc 2 (by rfl))) (Zc 0 (by rfl))) (Zj (d:=(.int 1)) (by rfl) (by rfl)))))) (Zg (Zc 1 (by rfl)) Zm))) (by rfl) (by rfl) (by rfl) (by rfl)))
 (ZS (X9 (Zg (Zc 4 (by rfl)) (Zg (ZiK (Or.inl rfl) (Zc 7 (by rfl)) (Zb7 (Zd Zp (Zc 8 (by rfl)) (Zj (d:=(.int 0)) (by rfl) (by rfl)))) (Zb7 (Zd Zp (Zc 8 (by rfl)) (Zj (d:=(.int 1)) (by rfl) (by rfl))))) Zm))))))))))))
theorem Zlj(T:Txt K mg t):FnOk P w K mg base CX0 1 t.a_QU t.d_QU ["ways", "place", "new"] (spD ⟨t.c,K⟩ 3 J5):=by
 refine YJ (φ:=f_QU) T.f_QU ZkU (by conv=>lhs;whnf) (by conv=>lhs;whnf) (λcdv A outer s H E hr => ?_) rfl rfl;refine⟨_,(Zv (Yp (ZV (ZcT (K:=K)) (pv 1) (Xd (by rfl) (CompSc.mk' (tn:=["way"]) (cn:=[]) (js:=[]) (osc:=defScope VD) (oN:=["ways", "place", "new", "told", "way"]) (by rfl) (by rfl) (by rfl) (by decide +kernel)) (YG (K:=K) (pv 0)) (λC s₂ H₂ fp=>ZP (i:=0) nd0) (λC s₂ H₂ fp=>YX) (λC s₂ H₂ fp=>(Zn (Zo (K:=K)) (pv 0) Zl (λ_ _=>rfl)))) (by rfl)) (ZC (ZQ (pv 0))) Ys)
 (Zv (ZR (i:=3) nd9 (by rfl) (by first|exact Or.inl rfl|exact Or.inr rfl) (Xq Zk))
 (Zv ((XB PassesOwn.never (by rfl) (YG (K:=K) (pv 0)) (ZP (i:=4) nd9) (Zv (Xy (X8 (K:=K) PySem.F.plainAttrs_list PySem.F.slot_list_append PySem.F.type_list_append X7 (pv 3) (Ze (pv 4) Zk)))
 (ZC (Yp (ZV (Vo (cA:=⟨t.c,K⟩) (hr.units)) (Zn (Zo (K:=K)) (pv 4) Zl (λ_ _=>rfl)) (pv 1) (ZU _)) (ZC (Xy (X8 (K:=K) PySem.F.plainAttrs_list PySem.F.slot_list_append PySem.F.type_list_append X7 (pv 3) (Ze (X5 (Ze (Zn (Zo (K:=K)) (pv 4) Zl (λ_ _=>rfl)) (Ze (pv 2) Zk))) Zk)))) Ys)))))
 (ZC (ZQ (YT (XC (K:=K)) (by rfl) T.n_tuple boot_tuple (Ze (pv 3) Zk))))))),[],?_⟩
 unfold f_QU;exact(Zx (Yt (ZX (Zd Zg1 (Zc 1 (by rfl)) (VF.cl (YC (by rfl) (YN (Zc 0 (by rfl))) (Yg 0 (by rfl) (by rfl)) YZ (Zd Zp (Zc 0 (by rfl)) (Zj (d:=(.int 1)) (by rfl) (by rfl))))))) (ZS (Zc 0 (by rfl))) Yz)
 (Zx (show VS _ _ [3] _ _ _ _ from(V2 3 (XE Zm) (by rfl) (by rfl) (by rfl) (by rfl)))
 (Zx (UB (YN (Zc 0 (by rfl))) (Yg 4 (by rfl) (by rfl)) (Zx (V3 3 (by rfl) (Zc 4 (by rfl)))
 (Yt (ZX (Zd Vp (Zd Zp (Zc 4 (by rfl)) (Zj (d:=(.int 1)) (by rfl) (by rfl))) (Zc 1 (by rfl)))) (V3 3 (by rfl) (X9 (Zg (Zd Zp (Zc 4 (by rfl)) (Zj (d:=(.int 0)) (by rfl) (by rfl))) (Zg (Zc 2 (by rfl)) Zm)))) Yz)))
 (VS.frz (ow1:=[]) 3 (ZS (XF (Zg (Zc 3 (by rfl)) Zm))) (by rfl) (by rfl) (by rfl) (by rfl)))))
theorem Zlk(T:Txt K mg t):FnOk P w K mg base CX0 4 t.a_QX t.d_QX ["web", "n", "place", "picks"] (spD ⟨t.c,K⟩ 4 Qy):=by
 have GM_QS:=(Zha (P:=P) (w:=w) (base:=base) T).mono (k:=2) (by decide);have G_QQ:=(Zhb (P:=P) (w:=w) (base:=base) T).mono (k:=3) (by decide);have G_QU:=(Zlj (P:=P) (w:=w) (base:=base) T).mono (k:=3) (by decide);refine YJ (φ:=f_QX) T.f_QX ZkV (by conv=>lhs;whnf) (by conv=>lhs;whnf) (λcdv A outer s H E hr => ?_) rfl rfl;refine⟨_,(Zv (ZR (i:=4) UK (by rfl) (by first|exact Or.inl rfl|exact Or.inr rfl) (Zn (Zo (K:=K)) (YH (K:=K) (pv 0)) (pv 2) (λ_ _=>rfl)))
 (Zv (Vb (i:=5) UK (by rfl) (by rfl) (by rfl) (CompSc.mk' (tn:=["number", "way"]) (cn:=["picks"]) (js:=[3]) (osc:=defScope XQ) (oN:=["web", "n", "place", "picks", "own", "picked", "others", "share", "new", "ways", "weights", "homes"]) (by rfl) (by rfl) (by rfl) (by decide +kernel)) (Zbg (K:=K) (by rfl) T.n_enumerate (pv 4)) (λC s₂ H₂ fp=>Qf (K:=K) (n:=2) (Xz (ZP (i:=0) Zj9) (Xz (ZP (i:=1) Zj9) U9))) (λC s₂ H₂ fp=>(Uy (ZV (ZkD (K:=K)) (pv 0) (pv 2) (by rfl)))) (λC s₂ H₂ fp=>(pv 1)))
 (Zv (Vb (i:=6) UK (by rfl) (by rfl) (by rfl) (CompSc.mk' (tn:=["number", "way"]) (cn:=["picks"]) (js:=[3]) (osc:=defScope XQ) (oN:=["web", "n", "place", "picks", "own", "picked", "others", "share", "new", "ways", "weights", "homes"]) (by rfl) (by rfl) (by rfl) (by decide +kernel)) (Zbg (K:=K) (by rfl) T.n_enumerate (pv 4)) (λC s₂ H₂ fp=>Qf (K:=K) (n:=2) (Xz (ZP (i:=0) Zj9) (Xz (ZP (i:=1) Zj9) U9))) (λC s₂ H₂ fp=>(Uy (ZV (ZcT (K:=K)) (pv 0) (pv 2) (by rfl)))) (λC s₂ H₂ fp=>(pv 1)))
 (Zv (ZR (i:=7) UK (by rfl) (by first|exact Or.inl rfl|exact Or.inr rfl) (ZD UF (ZT (JE (K:=K)) (by rfl) T.n_sum boot_sum (Ze (Xd (by rfl) (CompSc.mk' (tn:=["way"]) (cn:=["web"]) (js:=[0]) (osc:=defScope XQ) (oN:=["web", "n", "place", "picks", "own", "picked", "others", "share", "new", "ways", "weights", "homes"]) (by rfl) (by rfl) (by rfl) (by decide +kernel)) (YG (K:=K) (pv 5)) (λC s₂ H₂ fp=>ZP (i:=0) Zmx) (λC s₂ H₂ fp=>YX) (λC s₂ H₂ fp=>(Zn (Zo (K:=K)) (YH (K:=K) (pv 1)) (Zn (Zo (K:=K)) (pv 0) Zl (λ_ _=>rfl)) (λ_ _=>rfl)))) Zk)) (pv 1)))
 (Zv (ZR (i:=8) UK (by rfl) (by first|exact Or.inl rfl|exact Or.inr rfl) (ZaG (cA:=⟨t.c,K⟩) (tab:=VB) (m:="many") ⟨⟨t.a_QQ,t.d_QQ,["self"],T.cl_Web,T.me_Web_many,G_QQ,T.b_QQ⟩,trivial⟩ hr (pv 0)))
 (Zv (ZR (i:=9) UK (by rfl) (by first|exact Or.inl rfl|exact Or.inr rfl) (ZD (Yh (K:=K)) (YT (UX (K:=K)) (by rfl) T.n_list boot_list (Ze (YH (K:=K) (pv 0)) Zk)) (Xq (Ze (pv 6) Zk))))
 (Zv (Jj (pv 5) (ZdT (pv 9) (pv 2) Zba))
 (Zv (ZR (i:=10) UK (by rfl) (by first|exact Or.inl rfl|exact Or.inr rfl) (ZD (Yh (K:=K)) (YT (UX (K:=K)) (by rfl) T.n_list boot_list (Ze (YH (K:=K) (pv 0)) Zk)) (Xq (Ze (ZD Jn (Zn (Zo (K:=K)) (YH (K:=K) (pv 0)) (pv 2) (λ_ _=>rfl)) (pv 7)) Zk))))
 (Zv (Jj (pv 7) (ZdT (pv 10) (pv 2) Zba))
 (Zv (ZR (i:=11) UK (by rfl) (by first|exact Or.inl rfl|exact Or.inr rfl) (ZD (Yh (K:=K)) (YT (UX (K:=K)) (by rfl) T.n_list boot_list (Ze (YH (K:=K) (pv 0)) Zk)) (Xq (Ze (Zn (Zo (K:=K)) (YH (K:=K) (pv 0)) (pv 2) (λ_ _=>rfl)) Zk))))
 (ZC (ZQ (Jq T.mk_Web (GM_QS) hr (by rfl) T.g_Web T.b_QS .nil Z3 (Ze (pv 11) (Ze (pv 10) (Ze (Xd (by rfl) (CompSc.mk' (tn:=["each"]) (cn:=["place", "new"]) (js:=[2,8]) (osc:=defScope XQ) (oN:=["web", "n", "place", "picks", "own", "picked", "others", "share", "new", "ways", "weights", "homes"]) (by rfl) (by rfl) (by rfl) (by decide +kernel)) (YG (K:=K) (pv 9)) (λC s₂ H₂ fp=>ZP (i:=0) Zmy) (λC s₂ H₂ fp=>YX) (λC s₂ H₂ fp=>(Yb (G_QU) hr (by rfl) T.g_QU T.k_QU T.b_QU .nil Z3 (Ze (pv 0) (Ze (pv 1) (Ze (pv 2) Zk)))))) Zk)))))))))))))))),[],?_⟩
 unfold f_QX;exact(Zx (show VS _ _ [] _ _ _ _ from(ZY 4 (Zd Zp (YI T.fl_ways (Zc 0 (by rfl))) (Zc 2 (by rfl))) (by rfl) (by rfl) (by rfl) (by rfl)))
 (Zx (show VS _ _ [] _ _ _ _ from(ZY 5 (VF.cl (YC (by rfl) (Zbh (Zc 4 (by rfl))) (Qn (XG 0 (by rfl) (by rfl) (XG 1 (by rfl) (by rfl) Qm))) (ZX (Zd Zg1 (Zc 0 (by rfl)) (Zc 2 (by rfl)))) (Zc 1 (by rfl)))) (by rfl) (by rfl) (by rfl) (by rfl)))
 (Zx (show VS _ _ [] _ _ _ _ from(ZY 6 (VF.cl (YC (by rfl) (Zbh (Zc 4 (by rfl))) (Qn (XG 0 (by rfl) (by rfl) (XG 1 (by rfl) (by rfl) Qm))) (ZX (Zd Zg1 (Zc 0 (by rfl)) (Zc 2 (by rfl)))) (Zc 1 (by rfl)))) (by rfl) (by rfl) (by rfl) (by rfl)))
 (Zx (show VS _ _ [] _ _ _ _ from(ZY 7 (Zd UG (Z1 JF (Zg (VF.cl (YC (by rfl) (YN (Zc 5 (by rfl))) (Yg 0 (by rfl) (by rfl)) YZ (Zd Zp (YI T.fl_weights (Zc 1 (by rfl))) (Zd Zp (Zc 0 (by rfl)) (Zj (d:=(.int 1)) (by rfl) (by rfl)))))) Zm)) (Zc 1 (by rfl))) (by rfl) (by rfl) (by rfl) (by rfl)))
 (Zx (show VS _ _ [] _ _ _ _ from(ZY 8 (Zb8 (Zc 0 (by rfl)) Zm) (by rfl) (by rfl) (by rfl) (by rfl)))
 (Zx (show VS _ _ [9] _ _ _ _ from(V2 9 (Q6 (VF.cl (UY (Or.inl rfl) (Zg (YI T.fl_ways (Zc 0 (by rfl))) Zm))) (VF.cl (XE (Zg (Zc 6 (by rfl)) Zm)))) (by rfl) (by rfl) (by rfl) (by rfl)))
 (Zx (Zb9 9 (by rfl) (Zc 5 (by rfl)) (Zc 2 (by rfl)))
 (VS.frz (ow1:=[]) 9 (Zx (show VS _ _ [10] _ _ _ _ from(V2 10 (Q6 (VF.cl (UY (Or.inl rfl) (Zg (YI T.fl_weights (Zc 0 (by rfl))) Zm))) (VF.cl (XE (Zg (Zd Jw (Zd Zp (YI T.fl_weights (Zc 0 (by rfl))) (Zc 2 (by rfl))) (Zc 7 (by rfl))) Zm)))) (by rfl) (by rfl) (by rfl) (by rfl)))
 (Zx (Zb9 10 (by rfl) (Zc 7 (by rfl)) (Zc 2 (by rfl)))
 (VS.frz (ow1:=[]) 10 (Zx (show VS _ _ [] _ _ _ _ from(ZY 11 (VF.cl (Q6 (VF.cl (UY (Or.inl rfl) (Zg (YI T.fl_homes (Zc 0 (by rfl))) Zm))) (VF.cl (XE (Zg (Zd Zp (YI T.fl_homes (Zc 0 (by rfl))) (Zc 2 (by rfl))) Zm))))) (by rfl) (by rfl) (by rfl) (by rfl)))
 (ZS (JC (c:="Web") [] (by rfl) (Zg (Zc 11 (by rfl)) (Zg (Zc 10 (by rfl)) (Zg (VF.cl (YC (by rfl) (YN (Zc 9 (by rfl))) (Yg 0 (by rfl) (by rfl)) YZ (Yd [] (by rfl) (Zg (Zc 0 (by rfl)) (Zg (Zc 1 (by rfl)) (Zg (Zc 2 (by rfl)) Zm)))))) Zm)))))) (by rfl) (by rfl) (by rfl) (by rfl)))) (by rfl) (by rfl) (by rfl) (by rfl)))))))))
theorem Zll(T:Txt K mg t):FnOk P w K mg base CX0 4 t.a_QW t.d_QW ["web"] (spD ⟨t.c,K⟩ 1 J6):=by
 have GM_QS:=(Zha (P:=P) (w:=w) (base:=base) T).mono (k:=2) (by decide);have G_QQ:=(Zhb (P:=P) (w:=w) (base:=base) T).mono (k:=3) (by decide);refine YJ (φ:=f_QW) T.f_QW ZkW (by conv=>lhs;whnf) (by conv=>lhs;whnf) (λcdv A outer s H E hr => ?_) rfl rfl;refine⟨_,(ZC (ZQ (Jq T.mk_Web (GM_QS) hr (by rfl) T.g_Web T.b_QS .nil Z3 (Ze (YH (K:=K) (pv 0)) (Ze (ZD (QZ (K:=K)) (Xq (Ze Zl Zk)) (ZaG (cA:=⟨t.c,K⟩) (tab:=VB) (m:="many") ⟨⟨t.a_QQ,t.d_QQ,["self"],T.cl_Web,T.me_Web_many,G_QQ,T.b_QQ⟩,trivial⟩ hr (pv 0))) (Ze (YH (K:=K) (pv 0)) Zk)))))),[],?_⟩
 unfold f_QW;exact(ZS (JC (c:="Web") [] (by rfl) (Zg (YI T.fl_homes (Zc 0 (by rfl))) (Zg (VF.cl (Zjx (VF.cl (XE (Zg (Zj (d:=(.int 1)) (by rfl) (by rfl)) Zm))) (Zb8 (Zc 0 (by rfl)) Zm))) (Zg (YI T.fl_ways (Zc 0 (by rfl))) Zm)))))
theorem Zlm(T:Txt K mg t):FnOk P w K mg base CX0 5 t.a_QT t.d_QT ["web", "n"] (spD ⟨t.c,K⟩ 2 J7):=by
 have G_QV:=(Zli (P:=P) (w:=w) (base:=base) T).mono (k:=4) (by decide);have G_QW:=(Zll (P:=P) (w:=w) (base:=base) T).mono (k:=4) (by decide);have G_QX:=(Zlk (P:=P) (w:=w) (base:=base) T).mono (k:=4) (by decide);refine YJ (φ:=f_QT) T.f_QT ZkX (by conv=>lhs;whnf) (by conv=>lhs;whnf) (λcdv A outer s H E hr => ?_) rfl rfl;refine⟨_,(Zv (ZR (i:=2) Zkq (by rfl) (by first|exact Or.inl rfl|exact Or.inr rfl) (Xq (Ze (pv 0) Zk)))
 (Zv (ZR (i:=3) Zkq (by rfl) (by first|exact Or.inl rfl|exact Or.inr rfl) (Yb (G_QV) hr (by rfl) T.g_QV T.k_QV T.b_QV .nil Z3 (Ze (pv 0) (Ze (pv 1) Zk))))
 (Zv ((Jk PassesOwn.never (Jh (Zed (pv 3))) (Zv (Xy (X8 (K:=K) PySem.F.plainAttrs_list PySem.F.slot_list_append PySem.F.type_list_append X7 (pv 2) (Ze (Yb (G_QX) hr (by rfl) T.g_QX T.k_QX T.b_QX .nil Z3 (Ze (Zn (Zo (K:=K)) (pv 2) (QI QK Zl) (λ_ _=>rfl)) (Ze (pv 1) (Ze (Zn (Zo (K:=K)) (pv 3) Zl (λ_ _=>rfl)) (Ze (Zn (Zo (K:=K)) (pv 3) Zl (λ_ _=>rfl)) Zk))))) Zk)))
 (ZC (ZR (i:=3) Zkq (by rfl) (by first|exact Or.inl rfl|exact Or.inr rfl) (Yb (G_QV) hr (by rfl) T.g_QV T.k_QV T.b_QV .nil Z3 (Ze (Zn (Zo (K:=K)) (pv 2) (QI QK Zl) (λ_ _=>rfl)) (Ze (pv 1) Zk))))))))
 (Zv (Yp (ZV Jo (Zn (Zo (K:=K)) (YH (K:=K) (Zn (Zo (K:=K)) (pv 2) (QI QK Zl) (λ_ _=>rfl))) Zl (λ_ _=>rfl)) Zl (ZU _)) (ZC (Xy (X8 (K:=K) PySem.F.plainAttrs_list PySem.F.slot_list_append PySem.F.type_list_append X7 (pv 2) (Ze (Yb (G_QW) hr (by rfl) T.g_QW T.k_QW T.b_QW .nil Z3 (Ze (Zn (Zo (K:=K)) (pv 2) (QI QK Zl) (λ_ _=>rfl)) Zk)) Zk)))) Ys)
 (ZC (ZQ (pv 2))))))),[],?_⟩
 unfold f_QT;exact(Zx (show VS _ _ [2] _ _ _ _ from(V2 2 (XE (Zg (Zc 0 (by rfl)) Zm)) (by rfl) (by rfl) (by rfl) (by rfl)))
 (Zx (show VS _ _ [2] _ _ _ _ from(ZY 3 (Yd [] (by rfl) (Zg (Zc 0 (by rfl)) (Zg (Zc 1 (by rfl)) Zm))) (by rfl) (by rfl) (by rfl) (by rfl)))
 (Zx (Zbd (ow:=[2]) (XT (Zeq (Zc 3 (by rfl)))) (Zx (V3 2 (by rfl) (Yd [] (by rfl) (Zg (q:=.cl) (Zd Zp (Uz 2 (by rfl)) (QU (Zj (d:=(.int 1)) (by rfl) (by rfl)))) (Zg (q:=.cl) (Zc 1 (by rfl)) (Zg (q:=.cl) (Zd Zp (Zc 3 (by rfl)) (Zj (d:=(.int 0)) (by rfl) (by rfl))) (Zg (q:=.cl) (Zd Zp (Zc 3 (by rfl)) (Zj (d:=(.int 1)) (by rfl) (by rfl))) Zm))))))
 (show VS _ _ [2] _ _ _ _ from(ZY 3 (Yd [] (by rfl) (Zg (q:=.cl) (Zd Zp (Uz 2 (by rfl)) (QU (Zj (d:=(.int 1)) (by rfl) (by rfl)))) (Zg (q:=.cl) (Zc 1 (by rfl)) Zm))) (by rfl) (by rfl) (by rfl) (by rfl)))))
 (Zx (Yt (ZX (Zd XD (Zd Zp (YI T.fl_weights (Zd Zp (Uz 2 (by rfl)) (QU (Zj (d:=(.int 1)) (by rfl) (by rfl))))) (Zj (d:=(.int 0)) (by rfl) (by rfl))) (Zj (d:=(.int 1)) (by rfl) (by rfl)))) (V3 2 (by rfl) (Yd [] (by rfl) (Zg (Zd Zp (Uz 2 (by rfl)) (QU (Zj (d:=(.int 1)) (by rfl) (by rfl)))) Zm))) Yz)
 (VS.frz (ow1:=[]) 2 (ZS (Zc 2 (by rfl))) (by rfl) (by rfl) (by rfl) (by rfl))))))
theorem Zhc(T:Txt K mg t):FnOk P w K mg base CX0 1 t.a_QB t.d_QB ["script", "k"] (spD ⟨t.c,K⟩ 2 YQ):=by
 refine YJ (φ:=f_QB) T.f_QB ZkY (by conv=>lhs;whnf) (by conv=>lhs;whnf) (λcdv A outer s H E hr => ?_) rfl rfl;refine⟨_,(Zv (Yp (ZV US (pv 1) (ZT (YL (K:=K)) (by rfl) T.n_len boot_len (Ze (pv 0) Zk)) (ZU _)) (ZC (ZQ (Zn (Zo (K:=K)) (pv 0) (pv 1) (λ_ _=>rfl)))) Ys)
 (ZC (ZQ Zl))),[],?_⟩
 unfold f_QB;exact(Zx (Yt (ZX (Zd XD (Zc 1 (by rfl)) (Z1 YM (Zg (Zc 0 (by rfl)) Zm)))) (ZS (Zd Zp (Zc 0 (by rfl)) (Zc 1 (by rfl)))) Yz)
 (ZS (Zj (d:=(.int 0)) (by rfl) (by rfl))))
theorem Zln(T:Txt K mg t):FnOk P w K mg base CX0 1 t.a_QL t.d_QL ["k"] (spD ⟨t.c,K⟩ 1 J8):=by
 refine YJ (φ:=f_QL) T.f_QL ZkZ (by conv=>lhs;whnf) (by conv=>lhs;whnf) (λcdv A outer s H E hr => ?_) rfl rfl;refine⟨_,(ZC (ZQ (ZD (Yh (K:=K)) (ZD (Yh (K:=K)) (Zn (Zo (K:=K)) (ZdX [97,98,99,100] (by decide +kernel)) (ZD Y1 (ZD UF (pv 0) Zl) Zl) (λ_ _=>rfl)) (Zn (Zo (K:=K)) (ZdX [97,98,99,100] (by decide +kernel)) (ZD Y1 (ZD UF (pv 0) Zl) Zl) (λ_ _=>rfl))) (Zn (Zo (K:=K)) (ZdX [97,98,99,100] (by decide +kernel)) (ZD Y1 (pv 0) Zl) (λ_ _=>rfl))))),[],?_⟩
 unfold f_QL;exact(ZS (Zd Yw (Zd Yw (Zd Zp (Zj (d:=(.str [97,98,99,100])) (by rfl) (by rfl)) (Zd Y4 (Zd UG (Zc 0 (by rfl)) (Zj (d:=(.int 16)) (by rfl) (by rfl))) (Zj (d:=(.int 4)) (by rfl) (by rfl)))) (Zd Zp (Zj (d:=(.str [97,98,99,100])) (by rfl) (by rfl)) (Zd Y4 (Zd UG (Zc 0 (by rfl)) (Zj (d:=(.int 4)) (by rfl) (by rfl))) (Zj (d:=(.int 4)) (by rfl) (by rfl))))) (Zd Zp (Zj (d:=(.str [97,98,99,100])) (by rfl) (by rfl)) (Zd Y4 (Zc 0 (by rfl)) (Zj (d:=(.int 4)) (by rfl) (by rfl))))))
theorem Zlo(T:Txt K mg t):FnOk P w K mg base CX0 1 t.a_QK t.d_QK ["weights", "rows", "place", "n"] (spD ⟨t.c,K⟩ 4 J9):=by
 refine YJ (φ:=f_QK) T.f_QK Zk0 (by conv=>lhs;whnf) (by conv=>lhs;whnf) (λcdv A outer s H E hr => ?_) rfl rfl;refine⟨_,(ZC (ZQ (QL Zit (ZT (JE (K:=K)) (by rfl) T.n_sum boot_sum (Ze (Xd (by rfl) (CompSc.mk' (tn:=["to"]) (cn:=["weights"]) (js:=[0]) (osc:=defScope VH) (oN:=["weights", "rows", "place", "n"]) (by rfl) (by rfl) (by rfl) (by decide +kernel)) (YG (K:=K) (Zn (Zo (K:=K)) (pv 1) (pv 2) (λ_ _=>rfl))) (λC s₂ H₂ fp=>ZP (i:=0) Zmz) (λC s₂ H₂ fp=>YX) (λC s₂ H₂ fp=>(Zn (Zo (K:=K)) (pv 1) (pv 0) (λ_ _=>rfl)))) Zk)) (ZD (QZ (K:=K)) (pv 3) (Zn (Zo (K:=K)) (pv 0) (pv 2) (λ_ _=>rfl))) (ZU _)))),[],?_⟩
 unfold f_QK;exact(ZS (Zd XD (Z1 JF (Zg (VF.cl (YC (by rfl) (YN (Zd Zp (Zc 1 (by rfl)) (Zc 2 (by rfl)))) (Yg 0 (by rfl) (by rfl)) YZ (Zd Zp (Zc 1 (by rfl)) (Zc 0 (by rfl))))) Zm)) (Zd JH (Zc 3 (by rfl)) (Zd Zp (Zc 0 (by rfl)) (Zc 2 (by rfl))))))
theorem Zlp(T:Txt K mg t):FnOk P w K mg base CX0 2 t.a_QF t.d_QF ["row", "twice"] (spD ⟨t.c,K⟩ 2 Zj2):=by
 have G_QL:=(Zln (P:=P) (w:=w) (base:=base) T).mono (k:=1) (by decide);refine YJ (φ:=f_QF) T.f_QF Zk1 (by conv=>lhs;whnf) (by conv=>lhs;whnf) (λcdv A outer s H E hr => ?_) rfl rfl;refine⟨_,(Zv (ZR (i:=2) Jb (by rfl) (by first|exact Or.inl rfl|exact Or.inr rfl) (Xq Zk))
 (Zv ((XB PassesOwn.never (by rfl) (X4 (by rfl) T.n_range (Ze (ZT (YL (K:=K)) (by rfl) T.n_len boot_len (Ze (pv 0) Zk)) Zk)) (ZP (i:=3) Jb) (Zv (ZR (i:=4) Jb (by rfl) (by first|exact Or.inl rfl|exact Or.inr rfl) (ZD (Yh (K:=K)) Zl (pv 3)))
 (Zv (ZR (i:=5) Jb (by rfl) (by first|exact Or.inl rfl|exact Or.inr rfl) (ZD Jn (ZD (Yh (K:=K)) (pv 3) Zl) (ZD (QZ (K:=K)) (ZD Y1 (pv 3) Zl) Zl)))
 (Zv (Yp (PW.pt (Ji (ZV (Vo (cA:=⟨t.c,K⟩) (hr.units)) (pv 1) Zl (ZU _)) (Ji (ZV US (pv 5) (ZT (YL (K:=K)) (by rfl) T.n_len boot_len (Ze (pv 0) Zk)) (ZU _)) (Zb3 (ZV (Y9 (cA:=⟨t.c,K⟩) (hr.units)) (Zn (Zo (K:=K)) (pv 0) (pv 5) (λ_ _=>rfl)) (Zn (Zo (K:=K)) (pv 0) (pv 3) (λ_ _=>rfl)) (ZU _)))))) (ZC (ZR (i:=4) Jb (by rfl) (by first|exact Or.inl rfl|exact Or.inr rfl) (ZD UF (pv 3) Zl))) Ys)
 (ZC (Xy (X8 (K:=K) PySem.F.plainAttrs_list PySem.F.slot_list_append PySem.F.type_list_append X7 (pv 2) (Ze (X5 (Ze (Yb (G_QL) hr (by rfl) T.g_QL T.k_QL T.b_QL .nil Z3 (Ze (pv 4) Zk)) (Ze (Zn (Zo (K:=K)) (pv 0) (pv 3) (λ_ _=>rfl)) Zk))) Zk)))))))))
 (ZC (ZQ (YT (XC (K:=K)) (by rfl) T.n_tuple boot_tuple (Ze (pv 2) Zk)))))),[],?_⟩
 unfold f_QF;exact(Zx (show VS _ _ [2] _ _ _ _ from(V2 2 (XE Zm) (by rfl) (by rfl) (by rfl) (by rfl)))
 (Zx (UB (Vw (Zg (Z1 YM (Zg (Zc 0 (by rfl)) Zm)) Zm) XU) (Yg 3 (by rfl) (by rfl)) (Zx (show VS _ _ [2] _ _ _ _ from(ZY 4 (Zd Yw (Zj (d:=(.int 19)) (by rfl) (by rfl)) (Zc 3 (by rfl))) (by rfl) (by rfl) (by rfl) (by rfl)))
 (Zx (show VS _ _ [2] _ _ _ _ from(ZY 5 (Zd Jw (Zd Yw (Zc 3 (by rfl)) (Zj (d:=(.int 1)) (by rfl) (by rfl))) (Zd JH (Zd Y4 (Zc 3 (by rfl)) (Zj (d:=(.int 2)) (by rfl) (by rfl))) (Zj (d:=(.int 2)) (by rfl) (by rfl)))) (by rfl) (by rfl) (by rfl) (by rfl)))
 (Zx (Yt (Jx (ZX (Zd Vp (Zc 1 (by rfl)) (Zj (d:=(.int 1)) (by rfl) (by rfl)))) (Jx (ZX (Zd XD (Zc 5 (by rfl)) (Z1 YM (Zg (Zc 0 (by rfl)) Zm)))) (ZX (Zd Xa (Zd Zp (Zc 0 (by rfl)) (Zc 5 (by rfl))) (Zd Zp (Zc 0 (by rfl)) (Zc 3 (by rfl))))))) (show VS _ _ [2] _ _ _ _ from(ZY 4 (Zd UG (Zc 3 (by rfl)) (Zj (d:=(.int 2)) (by rfl) (by rfl))) (by rfl) (by rfl) (by rfl) (by rfl))) Yz)
 (V3 2 (by rfl) (X9 (Zg (Yd [] (by rfl) (Zg (Zc 4 (by rfl)) Zm)) (Zg (Zd Zp (Zc 0 (by rfl)) (Zc 3 (by rfl))) Zm))))))))
 (VS.frz (ow1:=[]) 2 (ZS (XF (Zg (Zc 2 (by rfl)) Zm))) (by rfl) (by rfl) (by rfl) (by rfl))))
theorem Zlq(T:Txt K mg t):FnOk P w K mg base CX0 3 t.a_QR t.d_QR ["script", "at", "n"] (spD ⟨t.c,K⟩ 3 Q8):=by
 have G_QK:=(Zlo (P:=P) (w:=w) (base:=base) T).mono (k:=2) (by decide);have G_QB:=(Zhc (P:=P) (w:=w) (base:=base) T).mono (k:=2) (by decide);have G_QF:=(Zlp (P:=P) (w:=w) (base:=base) T).mono (k:=2) (by decide);refine YJ (φ:=f_QR) T.f_QR Zk2 (by conv=>lhs;whnf) (by conv=>lhs;whnf) (λcdv A outer s H E hr => ?_) rfl rfl;refine⟨_,(Zv (ZR (i:=3) Vh (by rfl) (by first|exact Or.inl rfl|exact Or.inr rfl) (ZD (Yh (K:=K)) Zl (ZD Y1 (Yb (G_QB) hr (by rfl) T.g_QB T.k_QB T.b_QB .nil Z3 (Ze (pv 0) (Ze (pv 1) Zk))) Zl)))
 (Zv (Vb (i:=4) Vh (by rfl) (by rfl) (by rfl) (CompSc.mk' (tn:=["k"]) (cn:=["script", "at"]) (js:=[0,1]) (osc:=defScope X1) (oN:=["script", "at", "n", "many", "weights", "homes", "rows", "k", "place", "to", "ways"]) (by rfl) (by rfl) (by rfl) (by decide +kernel)) (X4 (by rfl) T.n_range (Ze (pv 3) Zk)) (λC s₂ H₂ fp=>ZP (i:=0) Zl6) (λC s₂ H₂ fp=>YX) (λC s₂ H₂ fp=>(ZD (Yh (K:=K)) Zl (ZD Y1 (Yb (G_QB) hr (by rfl) T.g_QB T.k_QB T.b_QB .nil Z3 (Ze (pv 1) (Ze (ZD (Yh (K:=K)) (ZD (Yh (K:=K)) (pv 2) Zl) (pv 0)) Zk))) Zl))))
 (Zv (Vb (i:=5) Vh (by rfl) (by rfl) (by rfl) (CompSc.mk' (tn:=["k"]) (cn:=["script", "at"]) (js:=[0,1]) (osc:=defScope X1) (oN:=["script", "at", "n", "many", "weights", "homes", "rows", "k", "place", "to", "ways"]) (by rfl) (by rfl) (by rfl) (by decide +kernel)) (X4 (by rfl) T.n_range (Ze (pv 3) Zk)) (λC s₂ H₂ fp=>ZP (i:=0) Zl6) (λC s₂ H₂ fp=>YX) (λC s₂ H₂ fp=>(ZD Y1 (ZD UF (Yb (G_QB) hr (by rfl) T.g_QB T.k_QB T.b_QB .nil Z3 (Ze (pv 1) (Ze (ZD (Yh (K:=K)) (ZD (Yh (K:=K)) (pv 2) Zl) (pv 0)) Zk))) Zl) Zl)))
 (Zv (Vb (i:=6) Vh (by rfl) (by rfl) (by rfl) (CompSc.mk' (tn:=["k"]) (cn:=["many"]) (js:=[3]) (osc:=defScope X1) (oN:=["script", "at", "n", "many", "weights", "homes", "rows", "k", "place", "to", "ways"]) (by rfl) (by rfl) (by rfl) (by decide +kernel)) (X4 (by rfl) T.n_range (Ze (pv 3) Zk)) (λC s₂ H₂ fp=>ZP (i:=0) ZmA) (λC s₂ H₂ fp=>YX) (λC s₂ H₂ fp=>(Xq (Ze (ZD Y1 (ZD (Yh (K:=K)) (pv 0) Zl) (pv 1)) Zk))))
 (Zv (XB PassesOwn.never (by rfl) (ZeU (by rfl) T.n_range (Ze (ZD (Yh (K:=K)) (pv 1) Zl) (Ze (ZT (YL (K:=K)) (by rfl) T.n_len boot_len (Ze (pv 0) Zk)) Zk))) (ZP (i:=7) Vh) (Zv (ZR (i:=8) Vh (by rfl) (by first|exact Or.inl rfl|exact Or.inr rfl) (ZD Y1 (ZD UF (Zn (Zo (K:=K)) (pv 0) (pv 7) (λ_ _=>rfl)) Zl) (pv 3)))
 (ZC (Yp (ZV US (ZT (YL (K:=K)) (by rfl) T.n_len boot_len (Ze (Zn (Zo (K:=K)) (pv 6) (pv 8) (λ_ _=>rfl)) Zk)) Zl (ZU _)) (ZC (Xy (X8 (K:=K) PySem.F.plainAttrs_list PySem.F.slot_list_append PySem.F.type_list_append X7 (Zn (Zo (K:=K)) (pv 6) (pv 8) (λ_ _=>rfl)) (Ze (ZD Y1 (Zn (Zo (K:=K)) (pv 0) (pv 7) (λ_ _=>rfl)) (pv 3)) Zk)))) Ys))))
 (Zv (XB PassesOwn.never (by rfl) (X4 (by rfl) T.n_range (Ze (pv 3) Zk)) (ZP (i:=8) Vh) (Zv (ZR (i:=9) Vh (by rfl) (by first|exact Or.inl rfl|exact Or.inr rfl) (ZD Y1 (ZD UF (Yb (G_QB) hr (by rfl) T.g_QB T.k_QB T.b_QB .nil Z3 (Ze (pv 0) (Ze (ZD (Yh (K:=K)) (ZD (Yh (K:=K)) (pv 1) Zl) (pv 8)) Zk))) Zl) (pv 3)))
 (ZC (Jk PassesOwn.never (QH (Ut (Yb (G_QK) hr (by rfl) T.g_QK T.k_QK T.b_QK .nil Z3 (Ze (pv 4) (Ze (pv 6) (Ze (pv 8) (Ze (pv 2) Zk))))))) (Zv (Xy (X8 (K:=K) PySem.F.plainAttrs_list PySem.F.slot_list_append PySem.F.type_list_append X7 (Zn (Zo (K:=K)) (pv 6) (pv 8) (λ_ _=>rfl)) (Ze (pv 9) Zk)))
 (ZC (ZR (i:=9) Vh (by rfl) (by first|exact Or.inl rfl|exact Or.inr rfl) (ZD Y1 (ZD (Yh (K:=K)) (pv 9) Zl) (pv 3)))))))))
 (Zv (ZR (i:=10) Vh (by rfl) (by first|exact Or.inl rfl|exact Or.inr rfl) (Xq Zk))
 (Zv ((XB PassesOwn.never (by rfl) (X4 (by rfl) T.n_range (Ze (pv 3) Zk)) (ZP (i:=8) Vh) (ZC (Xy (X8 (K:=K) PySem.F.plainAttrs_list PySem.F.slot_list_append PySem.F.type_list_append X7 (pv 10) (Ze (Yb (G_QF) hr (by rfl) T.g_QF T.k_QF T.b_QF .nil Z3 (Ze (Zn (Zo (K:=K)) (pv 6) (pv 8) (λ_ _=>rfl)) (Ze (ZD Y1 (ZD UF (Yb (G_QB) hr (by rfl) T.g_QB T.k_QB T.b_QB .nil Z3 (Ze (pv 0) (Ze Zl Zk))) Zl) Zl) Zk))) Zk))))))
 (ZC (ZQ (X5 (Ze (YT (XC (K:=K)) (by rfl) T.n_tuple boot_tuple (Ze (pv 5) Zk)) (Ze (YT (XC (K:=K)) (by rfl) T.n_tuple boot_tuple (Ze (pv 4) Zk)) (Ze (YT (XC (K:=K)) (by rfl) T.n_tuple boot_tuple (Ze (pv 10) Zk)) Zk)))))))))))))),[],?_⟩
 unfold f_QR;exact(Zx (show VS _ _ [] _ _ _ _ from(ZY 3 (Zd Yw (Zj (d:=(.int 1)) (by rfl) (by rfl)) (Zd Y4 (Yd [] (by rfl) (Zg (Zc 0 (by rfl)) (Zg (Zc 1 (by rfl)) Zm))) (Zj (d:=(.int 5)) (by rfl) (by rfl)))) (by rfl) (by rfl) (by rfl) (by rfl)))
 (Zx (show VS _ _ [] _ _ _ _ from(ZY 4 (VF.cl (YC (by rfl) (Vw (Zg (Zc 3 (by rfl)) Zm) XU) (Yg 0 (by rfl) (by rfl)) YZ (Zd Yw (Zj (d:=(.int 1)) (by rfl) (by rfl)) (Zd Y4 (Yd [] (by rfl) (Zg (Zc 1 (by rfl)) (Zg (Zd Yw (Zd Yw (Zc 2 (by rfl)) (Zj (d:=(.int 1)) (by rfl) (by rfl))) (Zc 0 (by rfl))) Zm))) (Zj (d:=(.int 5)) (by rfl) (by rfl)))))) (by rfl) (by rfl) (by rfl) (by rfl)))
 (Zx (show VS _ _ [] _ _ _ _ from(ZY 5 (VF.cl (YC (by rfl) (Vw (Zg (Zc 3 (by rfl)) Zm) XU) (Yg 0 (by rfl) (by rfl)) YZ (Zd Y4 (Zd UG (Yd [] (by rfl) (Zg (Zc 1 (by rfl)) (Zg (Zd Yw (Zd Yw (Zc 2 (by rfl)) (Zj (d:=(.int 1)) (by rfl) (by rfl))) (Zc 0 (by rfl))) Zm))) (Zj (d:=(.int 5)) (by rfl) (by rfl))) (Zj (d:=(.int 4)) (by rfl) (by rfl))))) (by rfl) (by rfl) (by rfl) (by rfl)))
 (Zjw 6 (by rfl) (by rfl) (ZfX (by rfl) (Vw (Zg (Zc 3 (by rfl)) Zm) XU) (Yg 0 (by rfl) (by rfl)) YZ (XE (Zg (Zd Y4 (Zd Yw (Zc 0 (by rfl)) (Zj (d:=(.int 1)) (by rfl) (by rfl))) (Zc 1 (by rfl))) Zm)))
 (Q1 (ZgF 7 (by decide) (by rfl) (by rfl) (ZfU (Zg (Zd Yw (Zc 1 (by rfl)) (Zj (d:=(.int 6)) (by rfl) (by rfl))) (Zg (Z1 YM (Zg (Zc 0 (by rfl)) Zm)) Zm)) Zmu) (Q1 (show VM _ _ [] _ _ _ _ _ from Zca (λ_=>(show VS _ _ [] _ _ _ _ from(ZY 8 (Zd Y4 (Zd UG (Zd Zp (Zc 0 (by rfl)) (Zc 7 (by rfl))) (Zj (d:=(.int 7)) (by rfl) (by rfl))) (Zc 3 (by rfl))) (by rfl) (by rfl) (by rfl) (by rfl)))) (by rfl))
 (ZkM (ZX (Zd XD (Z1 YM (Zg (Zd Zp (Zc 6 (by rfl)) (Zc 8 (by rfl))) Zm)) (Zj (d:=(.int 8)) (by rfl) (by rfl)))) (Zex (Zc 8 (by rfl)) (Zd Y4 (Zd Zp (Zc 0 (by rfl)) (Zc 7 (by rfl))) (Zc 3 (by rfl)))) ZhH)))
 (Q1 (ZgF 8 (by decide) (by rfl) (by rfl) (ZfT (Zg (Zc 3 (by rfl)) Zm) XU) (Q1 (show VM _ _ [] _ _ _ _ _ from Zca (λ_=>(show VS _ _ [] _ _ _ _ from(ZY 9 (Zd Y4 (Zd UG (Yd [] (by rfl) (Zg (Zc 0 (by rfl)) (Zg (Zd Yw (Zd Yw (Zc 1 (by rfl)) (Zj (d:=(.int 1)) (by rfl) (by rfl))) (Zc 8 (by rfl))) Zm))) (Zj (d:=(.int 20)) (by rfl) (by rfl))) (Zc 3 (by rfl))) (by rfl) (by rfl) (by rfl) (by rfl)))) (by rfl))
 (ZfV (QS (XT (Yd [] (by rfl) (Zg (Zc 4 (by rfl)) (Zg (Zc 6 (by rfl)) (Zg (Zc 8 (by rfl)) (Zg (Zc 2 (by rfl)) Zm))))))) (Q1 (Zex (Zc 8 (by rfl)) (Zc 9 (by rfl)))
 (show VM _ _ [] _ _ _ _ _ from Zca (λ_=>(show VS _ _ [] _ _ _ _ from(ZY 9 (Zd Y4 (Zd Yw (Zc 9 (by rfl)) (Zj (d:=(.int 1)) (by rfl) (by rfl))) (Zc 3 (by rfl))) (by rfl) (by rfl) (by rfl) (by rfl)))) (by rfl))))))
 (Zjz (ow1:=[]) (Zx (show VS _ _ [10] _ _ _ _ from(V2 10 (XE Zm) (by rfl) (by rfl) (by rfl) (by rfl)))
 (Zx (UB (Vw (Zg (Zc 3 (by rfl)) Zm) XU) (Yg 8 (by rfl) (by rfl)) (V3 10 (by rfl) (Yd [] (by rfl) (Zg (Zd Zp (Zc 6 (by rfl)) (Zc 8 (by rfl))) (Zg (Zd Y4 (Zd UG (Yd [] (by rfl) (Zg (Zc 0 (by rfl)) (Zg (Zj (d:=(.int 1)) (by rfl) (by rfl)) Zm))) (Zj (d:=(.int 2)) (by rfl) (by rfl))) (Zj (d:=(.int 2)) (by rfl) (by rfl))) Zm)))))
 (VS.frz (ow1:=[]) 10 (ZS (X9 (Zg (XF (Zg (Zc 5 (by rfl)) Zm)) (Zg (XF (Zg (Zc 4 (by rfl)) Zm)) (Zg (XF (Zg (Zc 10 (by rfl)) Zm)) Zm))))) (by rfl) (by rfl) (by rfl) (by rfl)))))))))))
theorem Zlr(T:Txt K mg t):FnOk P w K mg base CX0 4 t.a_QD t.d_QD ["script", "told"] (spD ⟨t.c,K⟩ 2 Zj3):=by
 have GM_QS:=(Zha (P:=P) (w:=w) (base:=base) T).mono (k:=2) (by decide);have G_QB:=(Zhc (P:=P) (w:=w) (base:=base) T).mono (k:=3) (by decide);refine YJ (φ:=f_QD) T.f_QD Zk3 (by conv=>lhs;whnf) (by conv=>lhs;whnf) (λcdv A outer s H E hr => ?_) rfl rfl;refine⟨_,(Zv (Yp (ZV (Vo (cA:=⟨t.c,K⟩) (hr.units)) (ZD Y1 (Yb (G_QB) hr (by rfl) T.g_QB T.k_QB T.b_QB .nil Z3 (Ze (pv 0) (Ze Zl Zk))) Zl) Zl (ZU _)) (ZC (ZQ (Jq T.mk_Web (GM_QS) hr (by rfl) T.g_Web T.b_QS .nil Z3 (Ze (Zn (Zo (K:=K)) (pv 1) Zl (λ_ _=>rfl)) (Ze (Zn (Zo (K:=K)) (pv 1) Zl (λ_ _=>rfl)) (Ze (Zn (Zo (K:=K)) (pv 1) Zl (λ_ _=>rfl)) Zk)))))) Ys)
 (Zv (ZR (i:=2) Zka (by rfl) (by first|exact Or.inl rfl|exact Or.inr rfl) (Xq (Ze (YT (UX (K:=K)) (by rfl) T.n_list boot_list (Ze (Zn (Zo (K:=K)) (pv 1) Zl (λ_ _=>rfl)) Zk)) (Ze (YT (UX (K:=K)) (by rfl) T.n_list boot_list (Ze (Zn (Zo (K:=K)) (pv 1) Zl (λ_ _=>rfl)) Zk)) (Ze (Xd (by rfl) (CompSc.mk' (tn:=["row"]) (cn:=[]) (js:=[]) (osc:=defScope VL) (oN:=["script", "told", "parts", "web", "row", "part"]) (by rfl) (by rfl) (by rfl) (by decide +kernel)) (YG (K:=K) (Zn (Zo (K:=K)) (pv 1) Zl (λ_ _=>rfl))) (λC s₂ H₂ fp=>ZP (i:=0) Zl7) (λC s₂ H₂ fp=>YX) (λC s₂ H₂ fp=>(YT (UX (K:=K)) (by rfl) T.n_list boot_list (Ze (pv 0) Zk)))) Zk)))))
 (Zv (ZR (i:=3) Zka (by rfl) (by first|exact Or.inl rfl|exact Or.inr rfl) (Jq T.mk_Web (GM_QS) hr (by rfl) T.g_Web T.b_QS .nil Z3 (Ze (Zn (Zo (K:=K)) (pv 2) Zl (λ_ _=>rfl)) (Ze (Zn (Zo (K:=K)) (pv 2) Zl (λ_ _=>rfl)) (Ze (Zn (Zo (K:=K)) (pv 2) Zl (λ_ _=>rfl)) Zk)))))
 (Zv (XB PassesOwn.never (by rfl) (YG (K:=K) (Zn (Zo (K:=K)) (pv 2) Zl (λ_ _=>rfl))) (ZP (i:=4) Zka) (ZC (Xy (Zg5 (K:=K) PySem.F.plainAttrs_list PySem.F.slot_list_clear PySem.F.type_list_clear ZcP (pv 4)))))
 (Zv (XB PassesOwn.never (by rfl) (YG (K:=K) (pv 2)) (ZP (i:=5) Zka) (ZC (Xy (Zg5 (K:=K) PySem.F.plainAttrs_list PySem.F.slot_list_clear PySem.F.type_list_clear ZcP (pv 5)))))
 (ZC (ZQ (pv 3)))))))),[],?_⟩
 unfold f_QD;exact(Zx (Yt (ZX (Zd Vp (Zd Y4 (Yd [] (by rfl) (Zg (Zc 0 (by rfl)) (Zg (Zj (d:=(.int 1)) (by rfl) (by rfl)) Zm))) (Zj (d:=(.int 2)) (by rfl) (by rfl))) (Zj (d:=(.int 0)) (by rfl) (by rfl)))) (ZS (JC (c:="Web") [] (by rfl) (Zg (Zd Zp (Zc 1 (by rfl)) (Zj (d:=(.int 0)) (by rfl) (by rfl))) (Zg (Zd Zp (Zc 1 (by rfl)) (Zj (d:=(.int 1)) (by rfl) (by rfl))) (Zg (Zd Zp (Zc 1 (by rfl)) (Zj (d:=(.int 2)) (by rfl) (by rfl))) Zm))))) Yz)
 (Zfn 2 3 4 5 (by decide) (by decide) (by decide) (by decide) (by decide) (by rfl) (UY (Or.inl rfl) (Zg (Zd Zp (Zc 1 (by rfl)) (Zj (d:=(.int 0)) (by rfl) (by rfl))) Zm)) (UY (Or.inl rfl) (Zg (Zd Zp (Zc 1 (by rfl)) (Zj (d:=(.int 1)) (by rfl) (by rfl))) Zm)) (Zf1 (by rfl) (YN (Zd Zp (Zc 1 (by rfl)) (Zj (d:=(.int 2)) (by rfl) (by rfl)))) (Yg 0 (by rfl) (by rfl)) YZ (UY (Or.inl rfl) (Zg (Zc 0 (by rfl)) Zm))) (JC (c:="Web") [] (by rfl) (Zg (Zd Zp (Zc 2 (by rfl)) (Zj (d:=(.int 0)) (by rfl) (by rfl))) (Zg (Zd Zp (Zc 2 (by rfl)) (Zj (d:=(.int 1)) (by rfl) (by rfl))) (Zg (Zd Zp (Zc 2 (by rfl)) (Zj (d:=(.int 2)) (by rfl) (by rfl))) Zm))))))
theorem Zls(T:Txt K mg t):FnOk P w K mg base CX0 1 t.a_QG t.d_QG ["told", "n"] (spD ⟨t.c,K⟩ 2 Zj4):=by
 refine YJ (φ:=f_QG) T.f_QG Zk4 (by conv=>lhs;whnf) (by conv=>lhs;whnf) (λcdv A outer s H E hr => ?_) rfl rfl;refine⟨_,(Zv (Jj (pv 0) (Qf (K:=K) (n:=3) (Xz (ZP (i:=2) Zkb) (Xz (ZP (i:=3) Zkb) (Xz (ZP (i:=4) Zkb) U9)))))
 (Zv ((XB PassesOwn.never (by rfl) (X4 (by rfl) T.n_range (Ze (ZT (YL (K:=K)) (by rfl) T.n_len boot_len (Ze (pv 2) Zk)) Zk)) (ZP (i:=5) Zkb) (ZC (Yp (ZV US (ZT (JE (K:=K)) (by rfl) T.n_sum boot_sum (Ze (Xd (by rfl) (CompSc.mk' (tn:=["way"]) (cn:=["weights"]) (js:=[3]) (osc:=defScope VN) (oN:=["told", "n", "homes", "weights", "ways", "place"]) (by rfl) (by rfl) (by rfl) (by decide +kernel)) (YG (K:=K) (Zn (Zo (K:=K)) (pv 4) (pv 5) (λ_ _=>rfl))) (λC s₂ H₂ fp=>ZP (i:=0) ZmB) (λC s₂ H₂ fp=>YX) (λC s₂ H₂ fp=>(Zn (Zo (K:=K)) (pv 1) (Zn (Zo (K:=K)) (pv 0) Zl (λ_ _=>rfl)) (λ_ _=>rfl)))) Zk)) (ZD (QZ (K:=K)) (pv 1) (Zn (Zo (K:=K)) (pv 3) (pv 5) (λ_ _=>rfl))) (ZU _)) (ZC (ZQ Xb)) Ys))))
 (ZC (ZQ Xb)))),[],?_⟩
 unfold f_QG;exact(Zx (ZhR (Zc 0 (by rfl)) (Qn (XG 2 (by rfl) (by rfl) (XG 3 (by rfl) (by rfl) (XG 4 (by rfl) (by rfl) Qm)))))
 (Zx (UB (Vw (Zg (Z1 YM (Zg (Zc 2 (by rfl)) Zm)) Zm) XU) (Yg 5 (by rfl) (by rfl)) (Yt (ZX (Zd XD (Z1 JF (Zg (VF.cl (YC (by rfl) (YN (Zd Zp (Zc 4 (by rfl)) (Zc 5 (by rfl)))) (Yg 0 (by rfl) (by rfl)) YZ (Zd Zp (Zc 1 (by rfl)) (Zd Zp (Zc 0 (by rfl)) (Zj (d:=(.int 1)) (by rfl) (by rfl)))))) Zm)) (Zd JH (Zc 1 (by rfl)) (Zd Zp (Zc 3 (by rfl)) (Zc 5 (by rfl)))))) (ZS (Zj (d:=(.bl false)) (by rfl) (by rfl))) Yz))
 (ZS (Zj (d:=(.bl true)) (by rfl) (by rfl)))))
theorem Zlt(T:Txt K mg t):FnOk P w K mg base CX0 1 t.a_QC t.d_QC ["ways", "place"] (spD ⟨t.c,K⟩ 2 Q9):=by
 refine YJ (φ:=f_QC) T.f_QC Zk5 (by conv=>lhs;whnf) (by conv=>lhs;whnf) (λcdv A outer s H E hr => ?_) rfl rfl;refine⟨_,(Zv (ZR (i:=2) Zkr (by rfl) (by first|exact Or.inl rfl|exact Or.inr rfl) ZfP)
 (Zv (ZR (i:=3) Zkr (by rfl) (by first|exact Or.inl rfl|exact Or.inr rfl) (Xq (Ze (pv 1) Zk)))
 (Zv ((Jk PassesOwn.never (ZV Jo (ZT (YL (K:=K)) (by rfl) T.n_len boot_len (Ze (pv 3) Zk)) Zl (ZU _)) (ZC ((XB PassesOwn.never (by rfl) (YG (K:=K) (Zn (Zo (K:=K)) (pv 0) (Zg5 (K:=K) PySem.F.plainAttrs_list PySem.F.slot_list_pop PySem.F.type_list_pop Zjm (pv 3)) (λ_ _=>rfl))) (ZP (i:=4) Zkr) (ZC (Yp (Jh (Zfa (Q3 hr.units) (Zn (Zo (K:=K)) (pv 4) Zl (λ_ _=>rfl)) (pv 2))) (Zv (Zen (Q3 hr.units) (pv 2) (Zn (Zo (K:=K)) (pv 4) Zl (λ_ _=>rfl)) Xb (by rfl))
 (ZC (Xy (X8 (K:=K) PySem.F.plainAttrs_list PySem.F.slot_list_append PySem.F.type_list_append X7 (pv 3) (Ze (Zn (Zo (K:=K)) (pv 4) Zl (λ_ _=>rfl)) Zk))))) Ys)))))))
 (ZC (ZQ (pv 2)))))),[],?_⟩
 unfold f_QC;exact(Zx (show VS _ _ [2] _ _ _ _ from Zez 2 ZhM (by rfl) (by rfl) (by rfl) (by rfl))
 (Zx (show VS _ _ [2,3] _ _ _ _ from(V2 3 (XE (Zg (Zc 1 (by rfl)) Zm)) (by rfl) (by rfl) (by rfl) (by rfl)))
 (Zx (Zbd (ow:=[2,3]) (ZX (Zd XD (Z1 YM (Zg (Uz 3 (by rfl)) Zm)) (Zj (d:=(.int 0)) (by rfl) (by rfl)))) (ZhS (Zf0 3 (by rfl) (Zc 0 (by rfl))) (Yg 4 (by rfl) (by rfl)) (Yt (XT (Zfi (Zd Zp (Zc 4 (by rfl)) (Zj (d:=(.int 1)) (by rfl) (by rfl))) (Uz 2 (by rfl)))) (Zx (ZeA 2 (by rfl) (Zj (d:=(.bl true)) (by rfl) (by rfl)) (Zd Zp (Zc 4 (by rfl)) (Zj (d:=(.int 1)) (by rfl) (by rfl))))
 (V3 3 (by rfl) (Zd Zp (Zc 4 (by rfl)) (Zj (d:=(.int 1)) (by rfl) (by rfl))))) Yz)))
 (VS.frz (ow1:=[2]) 3 (VS.frz (ow1:=[]) 2 (ZS (Zc 2 (by rfl))) (by rfl) (by rfl) (by rfl) (by rfl)) (by rfl) (by rfl) (by rfl) (by rfl)))))
theorem Zlu(T:Txt K mg t):FnOk P w K mg base CX0 2 t.a_QM t.d_QM ["told"] (spD ⟨t.c,K⟩ 1 Zj5):=by
 have G_QC:=(Zlt (P:=P) (w:=w) (base:=base) T).mono (k:=1) (by decide);refine YJ (φ:=f_QM) T.f_QM Zk6 (by conv=>lhs;whnf) (by conv=>lhs;whnf) (λcdv A outer s H E hr => ?_) rfl rfl;refine⟨_,(Zv ((XB PassesOwn.never (by rfl) (X4 (by rfl) T.n_range (Ze (ZT (YL (K:=K)) (by rfl) T.n_len boot_len (Ze (Zn (Zo (K:=K)) (pv 0) Zl (λ_ _=>rfl)) Zk)) Zk)) (ZP (i:=1) ZmC) (ZC (Yp (ZV (Y9 (cA:=⟨t.c,K⟩) (hr.units)) (ZT (ZjB (K:=K)) (by rfl) T.n_len boot_len (Ze (Yb (G_QC) hr (by rfl) T.g_QC T.k_QC T.b_QC .nil Z3 (Ze (Zn (Zo (K:=K)) (pv 0) Zl (λ_ _=>rfl)) (Ze (pv 1) Zk))) Zk)) (ZT (YL (K:=K)) (by rfl) T.n_len boot_len (Ze (Zn (Zo (K:=K)) (pv 0) Zl (λ_ _=>rfl)) Zk)) (ZU _)) (ZC (ZQ Xb)) Ys))))
 (ZC (ZQ Xb))),[],?_⟩
 unfold f_QM;exact(Zx (UB (Vw (Zg (Z1 YM (Zg (Zd Zp (Zc 0 (by rfl)) (Zj (d:=(.int 0)) (by rfl) (by rfl))) Zm)) Zm) XU) (Yg 1 (by rfl) (by rfl)) (Yt (ZX (Zd Xa (Z1 ZhT (Zg (Yd [] (by rfl) (Zg (Zd Zp (Zc 0 (by rfl)) (Zj (d:=(.int 2)) (by rfl) (by rfl))) (Zg (Zc 1 (by rfl)) Zm))) Zm)) (Z1 YM (Zg (Zd Zp (Zc 0 (by rfl)) (Zj (d:=(.int 0)) (by rfl) (by rfl))) Zm)))) (ZS (Zj (d:=(.bl false)) (by rfl) (by rfl))) Yz))
 (ZS (Zj (d:=(.bl true)) (by rfl) (by rfl))))
theorem Zlv(T:Txt K mg t):FnOk P w K mg base CX0 1 t.a_QO t.d_QO ["web"] (spD ⟨t.c,K⟩ 1 Qz):=by
 refine YJ (φ:=f_QO) T.f_QO Zk7 (by conv=>lhs;whnf) (by conv=>lhs;whnf) (λcdv A outer s H E hr => ?_) rfl rfl;refine⟨_,(ZC (ZQ (X5 (Ze (YH (K:=K) (pv 0)) (Ze (YH (K:=K) (pv 0)) (Ze (YH (K:=K) (pv 0)) Zk)))))),[],?_⟩;unfold f_QO;exact(ZS (X9 (Zg (YI T.fl_homes (Zc 0 (by rfl))) (Zg (YI T.fl_weights (Zc 0 (by rfl))) (Zg (YI T.fl_ways (Zc 0 (by rfl))) Zm)))))
theorem Zlw(T:Txt K mg t):FnOk P w K mg base CX0 1 t.a_QJ t.d_QJ ["row", "place", "new"] (spD ⟨t.c,K⟩ 3 Zj6):=by
 refine YJ (φ:=f_QJ) T.f_QJ Zk8 (by conv=>lhs;whnf) (by conv=>lhs;whnf) (λcdv A outer s H E hr => ?_) rfl rfl;refine⟨_,(Zv (ZR (i:=3) Zks (by rfl) (by first|exact Or.inl rfl|exact Or.inr rfl) (Xq Zk))
 (Zv ((XB PassesOwn.never (by rfl) (YG (K:=K) (pv 0)) (Qf (K:=K) (n:=2) (Xz (ZP (i:=4) Zks) (Xz (ZP (i:=5) Zks) U9))) (Zv (Xy (X8 (K:=K) PySem.F.plainAttrs_list PySem.F.slot_list_append PySem.F.type_list_append X7 (pv 3) (Ze (X5 (Ze (pv 4) (Ze (pv 5) Zk))) Zk)))
 (ZC (Yp (ZV (Vo (cA:=⟨t.c,K⟩) (hr.units)) (pv 5) (pv 1) (ZU _)) (ZC (Xy (X8 (K:=K) PySem.F.plainAttrs_list PySem.F.slot_list_append PySem.F.type_list_append X7 (pv 3) (Ze (X5 (Ze (pv 4) (Ze (pv 2) Zk))) Zk)))) Ys)))))
 (ZC (ZQ (YT (XC (K:=K)) (by rfl) T.n_tuple boot_tuple (Ze (pv 3) Zk)))))),[],?_⟩
 unfold f_QJ;exact(Zx (show VS _ _ [3] _ _ _ _ from(V2 3 (XE Zm) (by rfl) (by rfl) (by rfl) (by rfl)))
 (Zx (UB (YN (Zc 0 (by rfl))) (Qn (XG 4 (by rfl) (by rfl) (XG 5 (by rfl) (by rfl) Qm))) (Zx (V3 3 (by rfl) (X9 (Zg (Zc 4 (by rfl)) (Zg (Zc 5 (by rfl)) Zm))))
 (Yt (ZX (Zd Vp (Zc 5 (by rfl)) (Zc 1 (by rfl)))) (V3 3 (by rfl) (X9 (Zg (Zc 4 (by rfl)) (Zg (Zc 2 (by rfl)) Zm)))) Yz)))
 (VS.frz (ow1:=[]) 3 (ZS (XF (Zg (Zc 3 (by rfl)) Zm))) (by rfl) (by rfl) (by rfl) (by rfl))))
theorem Zlx(T:Txt K mg t):FnOk P w K mg base CX0 2 t.a_QA t.d_QA ["one", "two", "n"] (spD ⟨t.c,K⟩ 3 Zj7):=by
 have G_QJ:=(Zlw (P:=P) (w:=w) (base:=base) T).mono (k:=1) (by decide);refine YJ (φ:=f_QA) T.f_QA Zk9 (by conv=>lhs;whnf) (by conv=>lhs;whnf) (λcdv A outer s H E hr => ?_) rfl rfl;refine⟨_,(Zv (ZR (i:=3) QA (by rfl) (by first|exact Or.inl rfl|exact Or.inr rfl) (ZT (YL (K:=K)) (by rfl) T.n_len boot_len (Ze (Zn (Zo (K:=K)) (pv 0) Zl (λ_ _=>rfl)) Zk)))
 (Zv (Vb (i:=4) QA (by rfl) (by rfl) (by rfl) (CompSc.mk' (tn:=["k"]) (cn:=["one", "two"]) (js:=[0,1]) (osc:=defScope Xn) (oN:=["one", "two", "n", "new", "fallen", "place", "mine", "rest", "rows"]) (by rfl) (by rfl) (by rfl) (by decide +kernel)) (X4 (by rfl) T.n_range (Ze (pv 3) Zk)) (λC s₂ H₂ fp=>ZP (i:=0) ZmD) (λC s₂ H₂ fp=>(Uy (ZV (Y9 (cA:=⟨t.c,K⟩) (hr.units)) (Zn (Zo (K:=K)) (Zn (Zo (K:=K)) (pv 1) Zl (λ_ _=>rfl)) (pv 0) (λ_ _=>rfl)) (Zn (Zo (K:=K)) (Zn (Zo (K:=K)) (pv 2) Zl (λ_ _=>rfl)) (pv 0) (λ_ _=>rfl)) (ZU _)))) (λC s₂ H₂ fp=>(pv 0)))
 (Zv (Yp (PW.pt (VU (ZV (Y9 (cA:=⟨t.c,K⟩) (hr.units)) (ZT (YL (K:=K)) (by rfl) T.n_len boot_len (Ze (Zn (Zo (K:=K)) (pv 1) Zl (λ_ _=>rfl)) Zk)) (ZD (Yh (K:=K)) (pv 3) Zl) (ZU _)) (VU (ZV (Y9 (cA:=⟨t.c,K⟩) (hr.units)) (ZT (YL (K:=K)) (by rfl) T.n_len boot_len (Ze (pv 4) Zk)) Zl (ZU _)) (VU (ZV (Y9 (cA:=⟨t.c,K⟩) (hr.units)) (ZT (YL (K:=K)) (by rfl) T.n_len boot_len (Ze (Zn (Zo (K:=K)) (pv 1) Zl (λ_ _=>rfl)) Zk)) (ZD (Yh (K:=K)) (pv 3) Zl) (ZU _)) (U8 (ZV (Y9 (cA:=⟨t.c,K⟩) (hr.units)) (ZT (YL (K:=K)) (by rfl) T.n_len boot_len (Ze (Zn (Zo (K:=K)) (pv 1) Zl (λ_ _=>rfl)) Zk)) (ZD (Yh (K:=K)) (pv 3) Zl) (ZU _))))))) (ZC (ZQ Xb)) Ys)
 (Zv (ZR (i:=5) QA (by rfl) (by first|exact Or.inl rfl|exact Or.inr rfl) (Zn (Zo (K:=K)) (pv 4) Zl (λ_ _=>rfl)))
 (Zv (Yp (PW.pt (VU (ZV (Y9 (cA:=⟨t.c,K⟩) (hr.units)) (Zn (Zo (K:=K)) (pv 1) Zl (λ_ _=>rfl)) (ZD (ZjD (K:=K)) (Zn (Zo (K:=K)) (pv 0) Zl (λ_ _=>rfl)) (X5 (Ze (Zn (Zo (K:=K)) (Zn (Zo (K:=K)) (pv 0) Zl (λ_ _=>rfl)) (pv 5) (λ_ _=>rfl)) Zk))) (ZU _)) (U8 (ZV (Y9 (cA:=⟨t.c,K⟩) (hr.units)) (ZD (Yh (K:=K)) (Zn (Zo (K:=K)) (Zn (Zo (K:=K)) (pv 1) Zl (λ_ _=>rfl)) (pv 5) (λ_ _=>rfl)) (Zn (Zo (K:=K)) (Zn (Zo (K:=K)) (pv 1) Zl (λ_ _=>rfl)) (pv 3) (λ_ _=>rfl))) (Zn (Zo (K:=K)) (Zn (Zo (K:=K)) (pv 0) Zl (λ_ _=>rfl)) (pv 5) (λ_ _=>rfl)) (ZU _))))) (ZC (ZQ Xb)) Ys)
 (Zv (Yp (PW.pt (VU (ZV (Y9 (cA:=⟨t.c,K⟩) (hr.units)) (Zn (Zo (K:=K)) (Zn (Zo (K:=K)) (pv 0) Zl (λ_ _=>rfl)) (pv 5) (λ_ _=>rfl)) (ZT (JL (K:=K)) (by rfl) T.n_max boot_max (Ze (Zn (Zo (K:=K)) (pv 0) Zl (λ_ _=>rfl)) Zk)) (ZU _)) (U8 (ZV US (ZT (Q4 (K:=K)) (by rfl) T.n_min boot_min (Ze (Zn (Zo (K:=K)) (pv 1) Zl (λ_ _=>rfl)) Zk)) Zl (ZU _))))) (ZC (ZQ Xb)) Ys)
 (Zv (Yp (ZV (Vo (cA:=⟨t.c,K⟩) (hr.units)) (ZT (Q4 (K:=K)) (by rfl) T.n_min boot_min (Ze (Xd (by rfl) (CompSc.mk' (tn:=["way"]) (cn:=["one"]) (js:=[0]) (osc:=defScope Xn) (oN:=["one", "two", "n", "new", "fallen", "place", "mine", "rest", "rows"]) (by rfl) (by rfl) (by rfl) (by decide +kernel)) (YG (K:=K) (Zn (Zo (K:=K)) (Zn (Zo (K:=K)) (pv 0) Zl (λ_ _=>rfl)) (pv 5) (λ_ _=>rfl))) (λC s₂ H₂ fp=>ZP (i:=0) Zl8) (λC s₂ H₂ fp=>YX) (λC s₂ H₂ fp=>(Zn (Zo (K:=K)) (Zn (Zo (K:=K)) (pv 1) Zl (λ_ _=>rfl)) (Zn (Zo (K:=K)) (pv 0) Zl (λ_ _=>rfl)) (λ_ _=>rfl)))) Zk)) (Zn (Zo (K:=K)) (Zn (Zo (K:=K)) (pv 0) Zl (λ_ _=>rfl)) (pv 5) (λ_ _=>rfl)) (ZU _)) (ZC (ZQ Xb)) Ys)
 (Zv (Vb (i:=6) QA (by rfl) (by rfl) (by rfl) (CompSc.mk' (tn:=["way"]) (cn:=["two", "place"]) (js:=[1,5]) (osc:=defScope Xn) (oN:=["one", "two", "n", "new", "fallen", "place", "mine", "rest", "rows"]) (by rfl) (by rfl) (by rfl) (by decide +kernel)) (YG (K:=K) (Zn (Zo (K:=K)) (Zn (Zo (K:=K)) (pv 0) Zl (λ_ _=>rfl)) (pv 5) (λ_ _=>rfl))) (λC s₂ H₂ fp=>ZP (i:=0) Zl9) (λC s₂ H₂ fp=>(Uy (ZV (ZjC (cA:=⟨t.c,K⟩) hr.units) (pv 0) (Zn (Zo (K:=K)) (Zn (Zo (K:=K)) (pv 1) Zl (λ_ _=>rfl)) (pv 2) (λ_ _=>rfl)) (by rfl)))) (λC s₂ H₂ fp=>(pv 0)))
 (Zv (Vb (i:=7) QA (by rfl) (by rfl) (by rfl) (CompSc.mk' (tn:=["way"]) (cn:=["two", "place"]) (js:=[1,5]) (osc:=defScope Xn) (oN:=["one", "two", "n", "new", "fallen", "place", "mine", "rest", "rows"]) (by rfl) (by rfl) (by rfl) (by decide +kernel)) (YG (K:=K) (Zn (Zo (K:=K)) (Zn (Zo (K:=K)) (pv 0) Zl (λ_ _=>rfl)) (pv 5) (λ_ _=>rfl))) (λC s₂ H₂ fp=>ZP (i:=0) Zl9) (λC s₂ H₂ fp=>(Uy (ZV (Zfq (cA:=⟨t.c,K⟩) hr.units) (pv 0) (Zn (Zo (K:=K)) (Zn (Zo (K:=K)) (pv 1) Zl (λ_ _=>rfl)) (pv 2) (λ_ _=>rfl)) (by rfl)))) (λC s₂ H₂ fp=>(pv 0)))
 (Zv (Yp (ZV (Y9 (cA:=⟨t.c,K⟩) (hr.units)) (ZT (JE (K:=K)) (by rfl) T.n_sum boot_sum (Ze (Xd (by rfl) (CompSc.mk' (tn:=["way"]) (cn:=["one"]) (js:=[0]) (osc:=defScope Xn) (oN:=["one", "two", "n", "new", "fallen", "place", "mine", "rest", "rows"]) (by rfl) (by rfl) (by rfl) (by decide +kernel)) (YG (K:=K) (pv 6)) (λC s₂ H₂ fp=>ZP (i:=0) Zl8) (λC s₂ H₂ fp=>YX) (λC s₂ H₂ fp=>(Zn (Zo (K:=K)) (Zn (Zo (K:=K)) (pv 1) Zl (λ_ _=>rfl)) (Zn (Zo (K:=K)) (pv 0) Zl (λ_ _=>rfl)) (λ_ _=>rfl)))) Zk)) (ZD (QZ (K:=K)) (pv 2) (Zn (Zo (K:=K)) (Zn (Zo (K:=K)) (pv 1) Zl (λ_ _=>rfl)) (pv 5) (λ_ _=>rfl))) (ZU _)) (ZC (ZQ Xb)) Ys)
 (Zv (ZR (i:=8) QA (by rfl) (by first|exact Or.inl rfl|exact Or.inr rfl) (ZD (Yh (K:=K)) (YT (UX (K:=K)) (by rfl) T.n_list boot_list (Ze (Zn (Zo (K:=K)) (pv 0) Zl (λ_ _=>rfl)) Zk)) (Xq (Ze (pv 7) Zk))))
 (Zv (Jj (pv 6) (ZdT (pv 8) (pv 5) Zba))
 (ZC (ZQ (QL (Vo (cA:=⟨t.c,K⟩) (hr.units)) (Zn (Zo (K:=K)) (pv 1) Zl (λ_ _=>rfl)) (YT (XC (K:=K)) (by rfl) T.n_tuple boot_tuple (Ze (Xd (by rfl) (CompSc.mk' (tn:=["row"]) (cn:=["place", "new"]) (js:=[5,3]) (osc:=defScope Xn) (oN:=["one", "two", "n", "new", "fallen", "place", "mine", "rest", "rows"]) (by rfl) (by rfl) (by rfl) (by decide +kernel)) (YG (K:=K) (pv 8)) (λC s₂ H₂ fp=>ZP (i:=0) ZmE) (λC s₂ H₂ fp=>YX) (λC s₂ H₂ fp=>(Yb (G_QJ) hr (by rfl) T.g_QJ T.k_QJ T.b_QJ .nil Z3 (Ze (pv 0) (Ze (pv 1) (Ze (pv 2) Zk)))))) Zk)) (ZU _)))))))))))))))),[],?_⟩
 unfold f_QA;exact(Zx (show VS _ _ [] _ _ _ _ from(ZY 3 (Z1 YM (Zg (Zd Zp (Zc 0 (by rfl)) (Zj (d:=(.int 0)) (by rfl) (by rfl))) Zm)) (by rfl) (by rfl) (by rfl) (by rfl)))
 (Zx (show VS _ _ [] _ _ _ _ from(ZY 4 (VF.cl (YC (by rfl) (Vw (Zg (Zc 3 (by rfl)) Zm) XU) (Yg 0 (by rfl) (by rfl)) (ZX (Zd Xa (Zd Zp (Zd Zp (Zc 1 (by rfl)) (Zj (d:=(.int 1)) (by rfl) (by rfl))) (Zc 0 (by rfl))) (Zd Zp (Zd Zp (Zc 2 (by rfl)) (Zj (d:=(.int 1)) (by rfl) (by rfl))) (Zc 0 (by rfl))))) (Zc 0 (by rfl)))) (by rfl) (by rfl) (by rfl) (by rfl)))
 (Zx (Yt (V0 (ZX (Zd Xa (Z1 YM (Zg (Zd Zp (Zc 1 (by rfl)) (Zj (d:=(.int 0)) (by rfl) (by rfl))) Zm)) (Zd Yw (Zc 3 (by rfl)) (Zj (d:=(.int 1)) (by rfl) (by rfl))))) (V0 (ZX (Zd Xa (Z1 YM (Zg (Zc 4 (by rfl)) Zm)) (Zj (d:=(.int 1)) (by rfl) (by rfl)))) (V0 (ZX (Zd Xa (Z1 YM (Zg (Zd Zp (Zc 1 (by rfl)) (Zj (d:=(.int 1)) (by rfl) (by rfl))) Zm)) (Zd Yw (Zc 3 (by rfl)) (Zj (d:=(.int 1)) (by rfl) (by rfl))))) (ZX (Zd Xa (Z1 YM (Zg (Zd Zp (Zc 1 (by rfl)) (Zj (d:=(.int 2)) (by rfl) (by rfl))) Zm)) (Zd Yw (Zc 3 (by rfl)) (Zj (d:=(.int 1)) (by rfl) (by rfl)))))))) (ZS (Zj (d:=(.bl false)) (by rfl) (by rfl))) Yz)
 (Zx (show VS _ _ [] _ _ _ _ from(ZY 5 (Zd Zp (Zc 4 (by rfl)) (Zj (d:=(.int 0)) (by rfl) (by rfl))) (by rfl) (by rfl) (by rfl) (by rfl)))
 (Zx (Yt (V0 (ZX (Zd Xa (Zd Zp (Zc 1 (by rfl)) (Zj (d:=(.int 0)) (by rfl) (by rfl))) (Zd ZhU (Zd Zp (Zc 0 (by rfl)) (Zj (d:=(.int 0)) (by rfl) (by rfl))) (X9 (Zg (Zd Zp (Zd Zp (Zc 0 (by rfl)) (Zj (d:=(.int 0)) (by rfl) (by rfl))) (Zc 5 (by rfl))) Zm))))) (ZX (Zd Xa (Zd Yw (Zd Zp (Zd Zp (Zc 1 (by rfl)) (Zj (d:=(.int 1)) (by rfl) (by rfl))) (Zc 5 (by rfl))) (Zd Zp (Zd Zp (Zc 1 (by rfl)) (Zj (d:=(.int 1)) (by rfl) (by rfl))) (Zc 3 (by rfl)))) (Zd Zp (Zd Zp (Zc 0 (by rfl)) (Zj (d:=(.int 1)) (by rfl) (by rfl))) (Zc 5 (by rfl)))))) (ZS (Zj (d:=(.bl false)) (by rfl) (by rfl))) Yz)
 (Zx (Yt (V0 (ZX (Zd Xa (Zd Zp (Zd Zp (Zc 0 (by rfl)) (Zj (d:=(.int 1)) (by rfl) (by rfl))) (Zc 5 (by rfl))) (Z1 JM (Zg (Zd Zp (Zc 0 (by rfl)) (Zj (d:=(.int 1)) (by rfl) (by rfl))) Zm)))) (ZX (Zd XD (Z1 Q5 (Zg (Zd Zp (Zc 1 (by rfl)) (Zj (d:=(.int 1)) (by rfl) (by rfl))) Zm)) (Zj (d:=(.int 1)) (by rfl) (by rfl))))) (ZS (Zj (d:=(.bl false)) (by rfl) (by rfl))) Yz)
 (Zx (Yt (ZX (Zd Vp (Z1 Q5 (Zg (VF.cl (YC (by rfl) (YN (Zd Zp (Zd Zp (Zc 0 (by rfl)) (Zj (d:=(.int 2)) (by rfl) (by rfl))) (Zc 5 (by rfl)))) (Yg 0 (by rfl) (by rfl)) YZ (Zd Zp (Zd Zp (Zc 1 (by rfl)) (Zj (d:=(.int 1)) (by rfl) (by rfl))) (Zd Zp (Zc 0 (by rfl)) (Zj (d:=(.int 1)) (by rfl) (by rfl)))))) Zm)) (Zd Zp (Zd Zp (Zc 0 (by rfl)) (Zj (d:=(.int 1)) (by rfl) (by rfl))) (Zc 5 (by rfl))))) (ZS (Zj (d:=(.bl false)) (by rfl) (by rfl))) Yz)
 (Zx (show VS _ _ [] _ _ _ _ from(ZY 6 (VF.cl (YC (by rfl) (YN (Zd Zp (Zd Zp (Zc 0 (by rfl)) (Zj (d:=(.int 2)) (by rfl) (by rfl))) (Zc 5 (by rfl)))) (Yg 0 (by rfl) (by rfl)) (ZX (Zd ZgH (Zc 0 (by rfl)) (Zd Zp (Zd Zp (Zc 1 (by rfl)) (Zj (d:=(.int 2)) (by rfl) (by rfl))) (Zc 2 (by rfl))))) (Zc 0 (by rfl)))) (by rfl) (by rfl) (by rfl) (by rfl)))
 (Zx (show VS _ _ [] _ _ _ _ from(ZY 7 (VF.cl (YC (by rfl) (YN (Zd Zp (Zd Zp (Zc 0 (by rfl)) (Zj (d:=(.int 2)) (by rfl) (by rfl))) (Zc 5 (by rfl)))) (Yg 0 (by rfl) (by rfl)) (ZX (Zd ZgH (Zc 0 (by rfl)) (Zd Zp (Zd Zp (Zc 1 (by rfl)) (Zj (d:=(.int 2)) (by rfl) (by rfl))) (Zc 2 (by rfl))))) (Zc 0 (by rfl)))) (by rfl) (by rfl) (by rfl) (by rfl)))
 (Zx (Yt (ZX (Zd Xa (Z1 JF (Zg (VF.cl (YC (by rfl) (YN (Zc 6 (by rfl))) (Yg 0 (by rfl) (by rfl)) YZ (Zd Zp (Zd Zp (Zc 1 (by rfl)) (Zj (d:=(.int 1)) (by rfl) (by rfl))) (Zd Zp (Zc 0 (by rfl)) (Zj (d:=(.int 1)) (by rfl) (by rfl)))))) Zm)) (Zd JH (Zc 2 (by rfl)) (Zd Zp (Zd Zp (Zc 1 (by rfl)) (Zj (d:=(.int 1)) (by rfl) (by rfl))) (Zc 5 (by rfl)))))) (ZS (Zj (d:=(.bl false)) (by rfl) (by rfl))) Yz)
 (Zx (show VS _ _ [8] _ _ _ _ from(V2 8 (Q6 (VF.cl (UY (Or.inl rfl) (Zg (Zd Zp (Zc 0 (by rfl)) (Zj (d:=(.int 2)) (by rfl) (by rfl))) Zm))) (VF.cl (XE (Zg (Zc 7 (by rfl)) Zm)))) (by rfl) (by rfl) (by rfl) (by rfl)))
 (Zx (Zb9 8 (by rfl) (Zc 6 (by rfl)) (Zc 5 (by rfl)))
 (VS.frz (ow1:=[]) 8 (ZS (Zd Vp (Zd Zp (Zc 1 (by rfl)) (Zj (d:=(.int 2)) (by rfl) (by rfl))) (XF (Zg (VF.cl (YC (by rfl) (YN (Zc 8 (by rfl))) (Yg 0 (by rfl) (by rfl)) YZ (Yd [] (by rfl) (Zg (Zc 0 (by rfl)) (Zg (Zc 1 (by rfl)) (Zg (Zc 2 (by rfl)) Zm)))))) Zm)))) (by rfl) (by rfl) (by rfl) (by rfl))))))))))))))
theorem Zly(T:Txt K mg t):FnOk P w K mg base CX0 1 t.a_QI t.d_QI ["weights"] (spD ⟨t.c,K⟩ 1 Ja):=by
 refine YJ (φ:=f_QI) T.f_QI Zla (by conv=>lhs;whnf) (by conv=>lhs;whnf) (λcdv A outer s H E hr => ?_) rfl rfl;refine⟨_,(ZC (ZQ (QL (Vo (cA:=⟨t.c,K⟩) (hr.units)) (ZT (JL (K:=K)) (by rfl) T.n_max boot_max (Ze (pv 0) Zk)) (ZT (Q4 (K:=K)) (by rfl) T.n_min boot_min (Ze (pv 0) Zk)) (ZU _)))),[],?_⟩;unfold f_QI;exact(ZS (Zd Vp (Z1 JM (Zg (Zc 0 (by rfl)) Zm)) (Z1 Q5 (Zg (Zc 0 (by rfl)) Zm))))
theorem Zlz(T:Txt K mg t):FnOk P w K mg base CX0 6 t.a_QY t.d_QY ["script"] (spD ⟨t.c,K⟩ 1 Zj8):=by
 have G_QI:=(Zly (P:=P) (w:=w) (base:=base) T).mono (k:=5) (by decide);have G_QG:=(Zls (P:=P) (w:=w) (base:=base) T).mono (k:=5) (by decide);have G_QB:=(Zhc (P:=P) (w:=w) (base:=base) T).mono (k:=5) (by decide);have G_QD:=(Zlr (P:=P) (w:=w) (base:=base) T).mono (k:=5) (by decide);have G_QA:=(Zlx (P:=P) (w:=w) (base:=base) T).mono (k:=5) (by decide)
 have G_QM:=(Zlu (P:=P) (w:=w) (base:=base) T).mono (k:=5) (by decide);have G_QO:=(Zlv (P:=P) (w:=w) (base:=base) T).mono (k:=5) (by decide);have G_QR:=(Zlq (P:=P) (w:=w) (base:=base) T).mono (k:=5) (by decide);have G_QT:=(Zlm (P:=P) (w:=w) (base:=base) T).mono (k:=5) (by decide);refine YJ (φ:=f_QY) T.f_QY Zlb (by conv=>lhs;whnf) (by conv=>lhs;whnf) (λcdv A outer s H E hr => ?_) rfl rfl
 refine⟨_,(Zv (ZR (i:=1) Uo (by rfl) (by first|exact Or.inl rfl|exact Or.inr rfl) (ZD (Yh (K:=K)) Zl (ZD Y1 (Yb (G_QB) hr (by rfl) T.g_QB T.k_QB T.b_QB .nil Z3 (Ze (pv 0) (Ze Zl Zk))) Zl)))
 (Zv (ZR (i:=2) Uo (by rfl) (by first|exact Or.inl rfl|exact Or.inr rfl) (Yb (G_QR) hr (by rfl) T.g_QR T.k_QR T.b_QR .nil Z3 (Ze (pv 0) (Ze Zl (Ze (pv 1) Zk)))))
 (Zv (ZR (i:=3) Uo (by rfl) (by first|exact Or.inl rfl|exact Or.inr rfl) (Yb (G_QD) hr (by rfl) T.g_QD T.k_QD T.b_QD .nil Z3 (Ze (pv 0) (Ze (pv 2) Zk))))
 (Zv (ZR (i:=4) Uo (by rfl) (by first|exact Or.inl rfl|exact Or.inr rfl) (Yb (G_QT) hr (by rfl) T.g_QT T.k_QT T.b_QT .nil Z3 (Ze (pv 3) (Ze (pv 1) Zk))))
 (Zv (Yp (PW.pt (VU (QH (Ut (ZT (ZdZ (K:=K)) (by rfl) T.n_isinstance boot_isinstance (Ze (pv 4) (Ze (Zb2 (v:=.ty "list") (by rfl) T.n_list boot_list rfl) Zk))))) (VU (ZV (Vo (cA:=⟨t.c,K⟩) (hr.units)) (ZT (YL (K:=K)) (by rfl) T.n_len boot_len (Ze (pv 4) Zk)) Zl (ZU _)) (U8 (ZV (Y9 (cA:=⟨t.c,K⟩) (hr.units)) (Yb (G_QO) hr (by rfl) T.g_QO T.k_QO T.b_QO .nil Z3 (Ze (pv 3) Zk)) (pv 2) (ZU _)))))) (ZC (ZQ Xb)) Ys)
 (Zv (Vb (i:=5) Uo (by rfl) (by rfl) (by rfl) (CompSc.mk' (tn:=["one"]) (cn:=[]) (js:=[]) (osc:=defScope Xo) (oN:=["script", "n", "told", "web", "webs", "rows", "at", "last", "even"]) (by rfl) (by rfl) (by rfl) (by decide +kernel)) (YG (K:=K) (pv 4)) (λC s₂ H₂ fp=>ZP (i:=0) ZmF) (λC s₂ H₂ fp=>YX) (λC s₂ H₂ fp=>(Yb (G_QO) hr (by rfl) T.g_QO T.k_QO T.b_QO .nil Z3 (Ze (pv 0) Zk))))
 (Zv (Yp (ZV (Y9 (cA:=⟨t.c,K⟩) (hr.units)) (Zn (Zo (K:=K)) (pv 5) Zl (λ_ _=>rfl)) (pv 2) (ZU _)) (ZC (ZQ Xb)) Ys)
 (Zv (ZR (i:=6) Uo (by rfl) (by first|exact Or.inl rfl|exact Or.inr rfl) Zl)
 (Zv ((Jk PassesOwn.never (PW.pt (Ji (ZV US (ZD (Yh (K:=K)) (pv 6) Zl) (ZT (YL (K:=K)) (by rfl) T.n_len boot_len (Ze (pv 5) Zk)) (ZU _)) (Zb3 (QH (Ut (Yb (G_QI) hr (by rfl) T.g_QI T.k_QI T.b_QI .nil Z3 (Ze (Zn (Zo (K:=K)) (Zn (Zo (K:=K)) (pv 5) (pv 6) (λ_ _=>rfl)) Zl (λ_ _=>rfl)) Zk))))))) (Zv (Yp (QH (Ut (Yb (G_QA) hr (by rfl) T.g_QA T.k_QA T.b_QA .nil Z3 (Ze (Zn (Zo (K:=K)) (pv 5) (pv 6) (λ_ _=>rfl)) (Ze (Zn (Zo (K:=K)) (pv 5) (ZD (Yh (K:=K)) (pv 6) Zl) (λ_ _=>rfl)) (Ze (pv 1) Zk)))))) (ZC (ZQ Xb)) Ys)
 (ZC (ZR (i:=6) Uo (by rfl) (by first|exact Or.inl rfl|exact Or.inr rfl) (ZD (Yh (K:=K)) (pv 6) Zl))))))
 (Zv (Yp (PW.pt (VU (QH (Ut (Yb (G_QI) hr (by rfl) T.g_QI T.k_QI T.b_QI .nil Z3 (Ze (Zn (Zo (K:=K)) (Zn (Zo (K:=K)) (pv 5) (pv 6) (λ_ _=>rfl)) Zl (λ_ _=>rfl)) Zk)))) (U8 (ZV Jo (pv 6) (ZD Jn (ZT (ZjE (K:=K)) (by rfl) T.n_sum boot_sum (Ze (Zn (Zo (K:=K)) (pv 2) Zl (λ_ _=>rfl)) Zk)) (ZT (YL (K:=K)) (by rfl) T.n_len boot_len (Ze (Zn (Zo (K:=K)) (pv 2) Zl (λ_ _=>rfl)) Zk))) (ZU _))))) (ZC (ZQ Xb)) Ys)
 (Zv (ZR (i:=7) Uo (by rfl) (by first|exact Or.inl rfl|exact Or.inr rfl) (Zn (Zo (K:=K)) (pv 5) (QI QK Zl) (λ_ _=>rfl)))
 (Zv (Yp (ZV Jo (Zn (Zo (K:=K)) (Zn (Zo (K:=K)) (Zn (Zo (K:=K)) (pv 5) (pv 6) (λ_ _=>rfl)) Zl (λ_ _=>rfl)) Zl (λ_ _=>rfl)) Zl (ZU _)) (Zv (ZR (i:=8) Uo (by rfl) (by first|exact Or.inl rfl|exact Or.inr rfl) (YT (XC (K:=K)) (by rfl) T.n_tuple boot_tuple (Ze (Xd (by rfl) (CompSc.mk' (tn:=["home"]) (cn:=[]) (js:=[]) (osc:=defScope Xo) (oN:=["script", "n", "told", "web", "webs", "rows", "at", "last", "even"]) (by rfl) (by rfl) (by rfl) (by decide +kernel)) (YG (K:=K) (Zn (Zo (K:=K)) (pv 7) Zl (λ_ _=>rfl))) (λC s₂ H₂ fp=>ZP (i:=0) ZmG) (λC s₂ H₂ fp=>YX) (λC s₂ H₂ fp=>Zl)) Zk)))
 (ZC (Yp (PW.pt (VU (ZV (Y9 (cA:=⟨t.c,K⟩) (hr.units)) (ZT (YL (K:=K)) (by rfl) T.n_len boot_len (Ze (pv 5) Zk)) (ZD (Yh (K:=K)) (pv 6) Zl) (ZU _)) (U8 (ZV (Y9 (cA:=⟨t.c,K⟩) (hr.units)) (pv 7) (X5 (Ze (Zn (Zo (K:=K)) (Zn (Zo (K:=K)) (pv 5) (pv 6) (λ_ _=>rfl)) Zl (λ_ _=>rfl)) (Ze (pv 8) (Ze (Zn (Zo (K:=K)) (Zn (Zo (K:=K)) (pv 5) (pv 6) (λ_ _=>rfl)) Zl (λ_ _=>rfl)) Zk)))) (ZU _))))) (ZC (ZQ Xb)) Ys))) (ZC (Yp (ZV (Y9 (cA:=⟨t.c,K⟩) (hr.units)) (ZT (YL (K:=K)) (by rfl) T.n_len boot_len (Ze (pv 5) Zk)) (ZD (Yh (K:=K)) (pv 6) Zl) (ZU _)) (ZC (ZQ Xb)) Ys)))
 (ZC (ZQ (Zgr (Yb (G_QG) hr (by rfl) T.g_QG T.k_QG T.b_QG .nil Z3 (Ze (pv 7) (Ze (pv 1) Zk))) (Zgr (Yb (G_QM) hr (by rfl) T.g_QM T.k_QM T.b_QM .nil Z3 (Ze (pv 7) Zk)) (Zjd (QL Zit (ZT (Q4 (K:=K)) (by rfl) T.n_min boot_min (Ze (Xd (by rfl) (CompSc.mk' (tn:=["row"]) (cn:=[]) (js:=[]) (osc:=defScope Xo) (oN:=["script", "n", "told", "web", "webs", "rows", "at", "last", "even"]) (by rfl) (by rfl) (by rfl) (by decide +kernel)) (YG (K:=K) (Zn (Zo (K:=K)) (pv 7) Zl (λ_ _=>rfl))) (λC s₂ H₂ fp=>ZP (i:=0) Zl7) (λC s₂ H₂ fp=>YX) (λC s₂ H₂ fp=>(ZT (YL (K:=K)) (by rfl) T.n_len boot_len (Ze (pv 0) Zk)))) Zk)) (pv 1) (ZU _))))))))))))))))))),[],?_⟩
 unfold f_QY;exact(Zx (show VS _ _ [] _ _ _ _ from(ZY 1 (Zd Yw (Zj (d:=(.int 1)) (by rfl) (by rfl)) (Zd Y4 (Yd [] (by rfl) (Zg (Zc 0 (by rfl)) (Zg (Zj (d:=(.int 0)) (by rfl) (by rfl)) Zm))) (Zj (d:=(.int 6)) (by rfl) (by rfl)))) (by rfl) (by rfl) (by rfl) (by rfl)))
 (Zx (show VS _ _ [] _ _ _ _ from(ZY 2 (Yd [] (by rfl) (Zg (Zc 0 (by rfl)) (Zg (Zj (d:=(.int 2)) (by rfl) (by rfl)) (Zg (Zc 1 (by rfl)) Zm)))) (by rfl) (by rfl) (by rfl) (by rfl)))
 (Zx (show VS _ _ [] _ _ _ _ from(ZY 3 (Yd [] (by rfl) (Zg (Zc 0 (by rfl)) (Zg (Zc 2 (by rfl)) Zm))) (by rfl) (by rfl) (by rfl) (by rfl)))
 (Zx (show VS _ _ [] _ _ _ _ from(ZY 4 (Yd [] (by rfl) (Zg (Zc 3 (by rfl)) (Zg (Zc 1 (by rfl)) Zm))) (by rfl) (by rfl) (by rfl) (by rfl)))
 (Zx (Yt (V0 (QS (XT (Zd0 (λ_ h=>h) T.isi_list (Zc 4 (by rfl))))) (V0 (ZX (Zd Vp (Z1 YM (Zg (Zc 4 (by rfl)) Zm)) (Zj (d:=(.int 0)) (by rfl) (by rfl)))) (ZX (Zd Xa (Yd [] (by rfl) (Zg (Zc 3 (by rfl)) Zm)) (Zc 2 (by rfl)))))) (ZS (Zj (d:=(.bl false)) (by rfl) (by rfl))) Yz)
 (Zx (show VS _ _ [] _ _ _ _ from(ZY 5 (VF.cl (YC (by rfl) (YN (Zc 4 (by rfl))) (Yg 0 (by rfl) (by rfl)) YZ (Yd [] (by rfl) (Zg (Zc 0 (by rfl)) Zm)))) (by rfl) (by rfl) (by rfl) (by rfl)))
 (Zx (Yt (ZX (Zd Xa (Zd Zp (Zc 5 (by rfl)) (Zj (d:=(.int 0)) (by rfl) (by rfl))) (Zc 2 (by rfl)))) (ZS (Zj (d:=(.bl false)) (by rfl) (by rfl))) Yz)
 (Zx (show VS _ _ [] _ _ _ _ from(ZY 6 (Zj (d:=(.int 0)) (by rfl) (by rfl)) (by rfl) (by rfl) (by rfl) (by rfl)))
 (Zx (Zbd (ow:=[]) (Jx (ZX (Zd XD (Zd Yw (Zc 6 (by rfl)) (Zj (d:=(.int 1)) (by rfl) (by rfl))) (Z1 YM (Zg (Zc 5 (by rfl)) Zm)))) (QS (XT (Yd [] (by rfl) (Zg (Zd Zp (Zd Zp (Zc 5 (by rfl)) (Zc 6 (by rfl))) (Zj (d:=(.int 1)) (by rfl) (by rfl))) Zm))))) (Zx (Yt (QS (XT (Yd [] (by rfl) (Zg (Zd Zp (Zc 5 (by rfl)) (Zc 6 (by rfl))) (Zg (Zd Zp (Zc 5 (by rfl)) (Zd Yw (Zc 6 (by rfl)) (Zj (d:=(.int 1)) (by rfl) (by rfl)))) (Zg (Zc 1 (by rfl)) Zm)))))) (ZS (Zj (d:=(.bl false)) (by rfl) (by rfl))) Yz)
 (show VS _ _ [] _ _ _ _ from(ZY 6 (Zd Yw (Zc 6 (by rfl)) (Zj (d:=(.int 1)) (by rfl) (by rfl))) (by rfl) (by rfl) (by rfl) (by rfl)))))
 (Zx (Yt (V0 (QS (XT (Yd [] (by rfl) (Zg (Zd Zp (Zd Zp (Zc 5 (by rfl)) (Zc 6 (by rfl))) (Zj (d:=(.int 1)) (by rfl) (by rfl))) Zm)))) (ZX (Zd XD (Zc 6 (by rfl)) (Zd Jw (Z1 ZhV (Zg (Zd Zp (Zc 2 (by rfl)) (Zj (d:=(.int 1)) (by rfl) (by rfl))) Zm)) (Z1 YM (Zg (Zd Zp (Zc 2 (by rfl)) (Zj (d:=(.int 1)) (by rfl) (by rfl))) Zm)))))) (ZS (Zj (d:=(.bl false)) (by rfl) (by rfl))) Yz)
 (Zx (show VS _ _ [] _ _ _ _ from(ZY 7 (Zd Zp (Zc 5 (by rfl)) (QU (Zj (d:=(.int 1)) (by rfl) (by rfl)))) (by rfl) (by rfl) (by rfl) (by rfl)))
 (Zx (Yt (ZX (Zd XD (Zd Zp (Zd Zp (Zd Zp (Zc 5 (by rfl)) (Zc 6 (by rfl))) (Zj (d:=(.int 1)) (by rfl) (by rfl))) (Zj (d:=(.int 0)) (by rfl) (by rfl))) (Zj (d:=(.int 1)) (by rfl) (by rfl)))) (Zx (show VS _ _ [] _ _ _ _ from(ZY 8 (XF (Zg (VF.cl (YC (by rfl) (YN (Zd Zp (Zc 7 (by rfl)) (Zj (d:=(.int 0)) (by rfl) (by rfl)))) (Yg 0 (by rfl) (by rfl)) YZ (Zj (d:=(.int 1)) (by rfl) (by rfl)))) Zm)) (by rfl) (by rfl) (by rfl) (by rfl)))
 (Yt (V0 (ZX (Zd Xa (Z1 YM (Zg (Zc 5 (by rfl)) Zm)) (Zd Yw (Zc 6 (by rfl)) (Zj (d:=(.int 2)) (by rfl) (by rfl))))) (ZX (Zd Xa (Zc 7 (by rfl)) (X9 (Zg (Zd Zp (Zd Zp (Zc 5 (by rfl)) (Zc 6 (by rfl))) (Zj (d:=(.int 0)) (by rfl) (by rfl))) (Zg (Zc 8 (by rfl)) (Zg (Zd Zp (Zd Zp (Zc 5 (by rfl)) (Zc 6 (by rfl))) (Zj (d:=(.int 2)) (by rfl) (by rfl))) Zm))))))) (ZS (Zj (d:=(.bl false)) (by rfl) (by rfl))) Yz)) (Yt (ZX (Zd Xa (Z1 YM (Zg (Zc 5 (by rfl)) Zm)) (Zd Yw (Zc 6 (by rfl)) (Zj (d:=(.int 1)) (by rfl) (by rfl))))) (ZS (Zj (d:=(.bl false)) (by rfl) (by rfl))) Yz))
 (ZS (ZgA (Yd [] (by rfl) (Zg (Zc 7 (by rfl)) (Zg (Zc 1 (by rfl)) Zm))) (ZgA (Yd [] (by rfl) (Zg (Zc 7 (by rfl)) Zm)) (Zd XD (Z1 Q5 (Zg (VF.cl (YC (by rfl) (YN (Zd Zp (Zc 7 (by rfl)) (Zj (d:=(.int 2)) (by rfl) (by rfl)))) (Yg 0 (by rfl) (by rfl)) YZ (Z1 YM (Zg (Zc 0 (by rfl)) Zm)))) Zm)) (Zc 1 (by rfl))))))))))))))))))
end
end K39
namespace K39
open DL L2
theorem QB(ns:List Int)(k:Nat):YQ [.lst (ns.map D.int),.int k]=some (.int (ns.getD k 0)):=by
 by_cases h:k<ns.length
 · have hz : atI (ns.map D.int) (k : Int) = some (.int (ns.getD k 0)) := by
    refine Jr ?_;rw [List.getElem?_map,List.getElem?_eq_getElem h,List.getD_eq_getElem?_getD,List.getElem?_eq_getElem h];rfl
   simp [YQ,f_QB,h,hz,DL.run,DL.runI,Zf,sIf,Zy,ZiI,sNext,Zq,ZiJ,Y0,ZiL,ZgC,xB,bD,Xl,Xe,xOr,Za,eC,eOp,Vq,eOr,Zl2,eIf,Zl3,V1,QT,ZgB,eUn,Vr,eNil,Zb,Yc,Yi,eCB,lenD,Zl4,Zl5,ZB,XV,XW,ZM,eSl,xP,xNoP,addD,subD,Zl0,ZiF,Zl1,Z6,ixD,isD,eBM,Va,Qo,kind,plainKinds,Zcc,Zcd,ZeB,Zd3,Zd4,Zd5,ZeC,ZeD,ZgI,ZgJ,ZgK,List.lookup,QJ,CMul,PySem.sizeLine_eq,List.replicate]
 · have hz:ns.getD k 0=0:=by rw [List.getD_eq_getElem?_getD,List.getElem?_eq_none (by omega)];rfl
   simp [YQ,f_QB,h,hz,DL.run,DL.runI,Zf,sIf,Zy,ZiI,sNext,Zq,ZiJ,Y0,ZiL,ZgC,xB,bD,Xl,Xe,xOr,Za,eC,eOp,Vq,eOr,Zl2,eIf,Zl3,V1,QT,ZgB,eUn,Vr,eNil,Zb,Yc,Yi,eCB,lenD,Zl4,Zl5,ZB,XV,XW,ZM,eSl,xP,xNoP,addD,subD,Zl0,ZiF,Zl1,Z6,ixD,isD,eBM,Va,Qo,kind,plainKinds,Zcc,Zcd,ZeB,Zd3,Zd4,Zd5,ZeC,ZeD,ZgI,ZgJ,ZgK,List.lookup,QJ,CMul,PySem.sizeLine_eq,List.replicate]
abbrev nD(a:Nat):D := .int (a:Int)
abbrev AD(l:List Nat):D := .lst (l.map nD)
abbrev PM(acc:List (List Nat)):D := .lst (acc.map AD)
theorem Zf3{ε:DL.Env->Option D}{δ:DL.Env}{xs:List D}(h:ε δ=some (.lst xs)):ZH ε δ=some xs:=by
 unfold ZH;rw [h]
theorem Zh2{a b:DL.Env->Option Bool}{δ:DL.Env}{x y:Bool}(h1:a δ=some x)(h2:b δ=some y):Xe a b δ=some (x&&y):=by
 cases x with
 |true=>exact(UJ h1 h2).trans (by rw [Bool.true_and])
 |false=>exact(JP h1).trans (by rw [Bool.false_and])
theorem QC{α:Type}{γ:D->DL.Env->Option DL.Env}{φ:DL.Env->Option Out}(g:α->D)(I:List α->DL.Env->Prop)(all:List α)(step:∀(dn:List α)(x:α)(r:List α)(δ:DL.Env),dn++x::r=all->I dn δ->∃δ1,γ (g x) δ=some δ1/\∃δ2,φ δ1=some (.nx δ2)/\I (dn++[x]) δ2):∀(rest dn:List α)(δ:DL.Env),dn++rest=all->I dn δ->∃δ',Z0 γ φ (rest.map g) δ=some (.nx δ')/\I all δ'
 | [],dn,δ,e,h=>⟨δ,rfl,by rw [<-e,List.append_nil];exact h⟩
 |x::rest,dn,δ,e,h=>by
  obtain⟨δ1,h1,δ2,h2,h3⟩:=step dn x rest δ e h;obtain⟨δ',h4,h5⟩:=QC g I all step rest (dn++[x]) δ2 (by rw [List.append_assoc];exact e) h3;refine⟨δ',?_,h5⟩;rw [List.map_cons];unfold Z0;rw [h1];dsimp only;rw [h2];exact h4
theorem YW{α:Type}{γ:D->DL.Env->Option DL.Env}{ε:DL.Env->Option D}{δ0:DL.Env}(g f:α->D):∀(xs:List α),(∀x∈xs,∃δ1,γ (g x) δ0=some δ1/\ε δ1=some (f x))->YB γ (λ_=>some true) ε δ0 (xs.map g)=some (xs.map f)
 | [],_=>rfl
 |x::xs,h=>by
  obtain⟨δ1,h1,h2⟩:=h x List.mem_cons_self;have ih:=YW g f xs λy hy=>h y (List.mem_cons_of_mem _ hy)
  rw [List.map_cons,List.map_cons];unfold YB;rw [h1];dsimp only;rw [h2,ih]
theorem QD{α:Type}{γ:D->DL.Env->Option DL.Env}{τ:DL.Env->Option Bool}{ε:DL.Env->Option D}{δ0:DL.Env}(g:α->D)(p:α->Bool):∀(xs:List α),(∀x∈xs,∃δ1,γ (g x) δ0=some δ1/\τ δ1=some (p x)/\ε δ1=some (g x))->YB γ τ ε δ0 (xs.map g)=some ((xs.filter p).map g)
 | [],_=>rfl
 |x::xs,h=>by
  obtain⟨δ1,h1,h2,h3⟩:=h x List.mem_cons_self;have ih:=QD g p xs λy hy=>h y (List.mem_cons_of_mem _ hy)
  rw [List.map_cons];unfold YB;rw [h1];dsimp only;rw [h2];cases hp:p x with
  |false=>rw [List.filter_cons_of_neg (by simp [hp])];exact ih
  |true=>
   rw [List.filter_cons_of_pos hp,List.map_cons];dsimp only;rw [h3,ih]
theorem Zh3{i:Nat}{φ:DL.Env->Option Out}{δ δ':DL.Env}(h:φ (δ.set i none)=some (.nx δ'))(hi:δ'[i]? = some none):Xs i φ δ=some (.nx (δ'.set i ((δ[i]?).getD none))):=by
 unfold Xs;rw [h];dsimp only;rw [hi]
theorem Zcg{i:Nat}{φ:DL.Env->Option Out}{δ δ0 δ' δ'':DL.Env}(e:δ.set i none=δ0)(h:φ δ0=some (.nx δ'))(hi:δ'[i]? = some none)(hr:δ'.set i ((δ[i]?).getD none)=δ''):Xs i φ δ=some (.nx δ''):=by
 subst e hr;exact Zh3 h hi
theorem ZjG{i:Nat}{ε:DL.Env->Option D}{δ:DL.Env}{d:D}(h:ε δ=some d)(hi:i<δ.length):Qs i ε δ=some (.nx (δ.set i (some d))):=by
 unfold Qs;rw [h];exact if_pos hi
abbrev tkK(tk:List Nat):List Key:=tk.map λt:Nat=>(.inl (t:Int):Key)
def TK(tk:List Nat):D := .dct (tkK tk) (tk.map λ_ => .bl true)
theorem ZjH{u t:Nat}(h:u≠t):¬((.inl (u:Int):Key) = .inl (t:Int)):=λz=>by
 have:=Sum.inl.inj z;omega
theorem QE(t:Nat):∀tk:List Nat,Xu (.inl (t:Int)) (tkK tk)=decide (t∈tk)
 | []=>by simp [Xu,tkK]
 |u::tk=>by
  show(decide ((.inl (u:Int):Key) = .inl (t:Int))||Xu (.inl (t:Int)) (tkK tk))=_;rw [QE t tk]
  by_cases h:u=t
  · subst h
    simp
  · have h2:¬t=u:=λz=>h z.symm
    simp [h2,ZjH h]
theorem Zf4(t:Nat)(tk:List Nat):inK true (nD t) (TK tk)=some (.bl (!decide (t∈tk))):=by
 show some (D.bl (true != Xu (.inl (t:Int)) (tkK tk)))=_;rw [QE];cases decide (t∈tk)<;>rfl
theorem ZbJ(k:Key):∀tk:List Nat,XY k (D.bl true) (tkK tk) (tk.map λ_=>D.bl true)=tk.map λ_=>D.bl true
 | []=>rfl
 |u::tk=>by
  show(if(.inl (u:Int):Key)=k then D.bl true else D.bl true)::XY k (D.bl true) (tkK tk) (tk.map λ_=>D.bl true)=_;rw [ZbJ k tk,ite_self];rfl
def ins(tk:List Nat)(t:Nat):List Nat:=if t∈tk then tk else tk++[t]
theorem Zf5{i:Nat}{κ ε:DL.Env->Option D}{δ:DL.Env}{l:List Nat}{t:Nat}(f:Nat->D)(h1:Za i δ=some (.dct (tkK l) (l.map f)))(h2:κ δ=some (nD t))(h3:ε δ=some (f t))(hn:t∉l)(hl:l.length<=1000):Xv i κ ε δ=some (.nx (δ.set i (some (.dct (tkK (l++[t])) ((l++[t]).map f))))):=by
 unfold Xv;rw [h1,h2,h3];show(if(tkK l).length<PySem.sizeLine then some (Out.nx (δ.set i (some (Vy (tkK l) (l.map f) (.inl (t:Int)) (f t)))))else none)=_;rw [if_pos (by rw [List.length_map,PySem.sizeLine_eq];omega)];unfold Vy;rw [QE,decide_eq_false hn,if_neg (by simp)];unfold tkK;rw [List.map_append,List.map_append];rfl
theorem Zf6{i:Nat}{κ:DL.Env->Option D}{δ:DL.Env}{tk:List Nat}{t:Nat}(h1:Za i δ=some (TK tk))(h2:κ δ=some (nD t))(hl:tk.length<=1000):Xv i κ (eC (.bl true)) δ=some (.nx (δ.set i (some (TK (ins tk t))))):=by
 by_cases h:t∈tk
 · unfold Xv
   rw [h1,h2];show(if(tkK tk).length<PySem.sizeLine then some (Out.nx (δ.set i (some (Vy (tkK tk) (tk.map λ_ => .bl true) (.inl (t:Int)) (.bl true)))))else none)=_;rw [if_pos (by rw [List.length_map,PySem.sizeLine_eq];omega)];unfold Vy ins;rw [QE,decide_eq_true h,if_pos rfl,if_pos h,ZbJ];rfl
 · refine(Zf5 (l:=tk) (λ_=>D.bl true) h1 h2 rfl h hl).trans ?_
   unfold ins;rw [if_neg h];rfl
theorem Zhd(t:Nat):∀P:List Nat,inV (.int (t:Int)) ((P.map nD).map val)=decide (t∈P)
 | []=>by simp [inV]
 |p::P=>by
  have ih:=Zhd t P;unfold inV at ih ⊢;rw [List.map_cons,List.map_cons,List.any_cons,ih];show(((p:Int) == (t:Int))||decide (t∈P))=_
  by_cases e:p=t
  · subst e
    simp
  · have e2:¬t=p:=λz=>e z.symm
    have e3:((p:Int) == (t:Int))=false:=by simp;omega
    rw [e3];simp [e2]
theorem Zkt(P:List Nat):(P.map nD).all ZE=true:=by
 rw [List.all_map];exact List.all_eq_true.mpr λx _=>rfl
theorem ZiV(t:Nat)(P:List Nat):inD true (nD t) (AD P)=some (.bl (!decide (t∈P))):=by
 show(if(ZE (.int (t:Int))&&(P.map nD).all ZE)=true then some (D.bl (if true=true then !(inV (.int (t:Int)) ((P.map nD).map val))else inV (.int (t:Int)) ((P.map nD).map val)))else none)=_;rw [Zkt,if_pos (show(ZE (.int (t:Int))&&true)=true from rfl),if_pos rfl,Zhd]
theorem ZlA(t:Nat)(P:List Nat):inD false (nD t) (AD P)=some (.bl (decide (t∈P))):=by
 show(if(ZE (.int (t:Int))&&(P.map nD).all ZE)=true then some (D.bl (if false=true then !(inV (.int (t:Int)) ((P.map nD).map val))else inV (.int (t:Int)) ((P.map nD).map val)))else none)=_;rw [Zkt,if_pos (show(ZE (.int (t:Int))&&true)=true from rfl),if_neg Bool.false_ne_true,Zhd]
end K39
namespace K39
open DL L2
abbrev Way:=List Nat×Nat
def wyD(w:Way):D := .tup [.str w.1,nD w.2]
def ZA(r:List Way):D := .tup (r.map wyD)
def YD(Y:List (List Way)):D := .tup (Y.map ZA)
def WD(W:List Nat):D := .tup (W.map nD)
def HD(hs:List Int):D := .tup (hs.map D.int)
structure Ok(n m:Nat)(W:List Nat)(hs:List Int)(Y:List (List Way)):Prop where
 m1:1<=m
 n1:1<=n
 n6:n<=6
 lw:W.length=m
 lh:hs.length=m
 ly:Y.length=m
 w1:∀w∈W,1<=w/\w<=5
 sw:W.sum<=25
 rs:∀r∈Y,(r.map λp=>W.getD p.2 0).sum<=150
 tg:∀r∈Y,∀p∈r,p.2<m
 cd:∀r∈Y,∀p∈r,p.1.length=3/\Xx p.1
 nd:∀r∈Y,r.Nodup
 st:∀S:Nat->Prop,(∀k<m,S k->∀p∈Y.getD k [],S p.2)->∀a<m,S a->∀b<m,S b
 br:∀k<m,n*W.getD k 0<=((Y.getD k []).map λp=>W.getD p.2 0).sum
theorem ZcG:∀l:List Nat,(∀x∈l,1<=x)->l.length<=l.sum
 | [],_=>Nat.le_refl _
 |a::l,h=>by
  rw [List.length_cons,List.sum_cons];have h1:=ZcG l λx hx=>h x (List.mem_cons_of_mem _ hx)
  have h2:=h a List.mem_cons_self;omega
section
variable{n m:Nat}{W:List Nat}{hs:List Int}{Y:List (List Way)}
theorem Ok.row(h:Ok n m W hs Y){k:Nat}(hk:k<m):Y[k]? = some (Y.getD k [])/\Y.getD k []∈Y:=by
 have hl:k<Y.length:=by rw [h.ly];exact hk
 rw [List.getD_eq_getElem?_getD,List.getElem?_eq_getElem hl];exact⟨rfl,List.getElem_mem hl⟩
theorem Ok.wt(h:Ok n m W hs Y){k:Nat}(hk:k<m):W[k]? = some (W.getD k 0)/\W.getD k 0∈W:=by
 have hl:k<W.length:=by rw [h.lw];exact hk
 rw [List.getD_eq_getElem?_getD,List.getElem?_eq_getElem hl];exact⟨rfl,List.getElem_mem hl⟩
theorem Ok.m5(h:Ok n m W hs Y):m<=25:=by
 have h1:=ZcG W λx hx=>(h.w1 x hx).1
 have h2:=h.sw;rw [h.lw]at h1;omega
theorem Ok.rl(h:Ok n m W hs Y):∀r∈Y,r.length<=150:=λr hr=>by
 have h1:=ZcG (r.map λp=>W.getD p.2 0) λx hx=>by
  obtain⟨p,hp,rfl⟩:=List.mem_map.mp hx;exact(h.w1 _ (h.wt (h.tg r hr p hp)).2).1
 rw [List.length_map]at h1;exact Nat.le_trans h1 (h.rs r hr)
theorem Ok.ne(h:Ok n m W hs Y){k:Nat}(hk:k<m):∃p,p∈Y.getD k []:=by
 have h1:=h.br k hk;have h2:=Nat.mul_le_mul h.n1 (h.w1 _ (h.wt hk).2).1;cases hz:Y.getD k []with
 |nil=>
  rw [hz]at h1;exact absurd (show 1*1<=0 from Nat.le_trans h2 h1) (by decide)
 |cons p r=>exact⟨p,List.mem_cons_self⟩
theorem UL(h:Ok n m W hs Y){k:Nat}(hk:k<m):ixD (YD Y) (nD k)=some (ZA (Y.getD k [])):=ix_tup (by rw [List.getElem?_map,(h.row hk).1];rfl)
theorem Xg(h:Ok n m W hs Y){k:Nat}(hk:k<m):ixD (WD W) (nD k)=some (nD (W.getD k 0)):=ix_tup (by rw [List.getElem?_map,(h.wt hk).1];rfl)
theorem Up(w:Way):ixD (wyD w) (.int 1)=some (nD w.2):=ix_tup (a:=1) rfl
theorem UM{α:Type} [BEq α] [LawfulBEq α]:∀(l S:List α),l.Nodup->(∀x∈l,x∈S)->l.length<=S.length
 | [],_,_,_=>Nat.zero_le _
 |x::l,S,hn,hs=>by
  have hx:=hs x List.mem_cons_self;rw [List.nodup_cons]at hn;have:=UM l (S.erase x) hn.2 λy hy=>(List.mem_erase_of_ne (λ(z:y=x)=>hn.1 (by rw [<-z];exact hy))).mpr (hs y (List.mem_cons_of_mem _ hy))
  rw [List.length_erase_of_mem hx]at this;have h0:=List.length_pos_of_mem hx;rw [List.length_cons];omega
noncomputable def cB:DL.Env->Option Out:=(sIf (xB (eOp (inK true) (eOp ixD (Za 4) (eC (.int 1))) (Za 2))) (Zf (Xv 2 (eOp ixD (Za 4) (eC (.int 1))) (eC (.bl true))) (YA 3 (eOp ixD (Za 4) (eC (.int 1))))) sNext)
noncomputable def cT:DL.Env->Option Bool:=(xB (eOp (Z6 λi j=>decide (j<i)) (eCB lenD (Zb (Za 3) eNil)) (eC (.int 0))))
noncomputable def cW:DL.Env->Option Out:=(Qw (Qx 3 (Za 0)) (Zw 4) cB)
theorem Zh4:f_QC=Zf (Zq 2 (eC (.dct [] []))) (Zf (Zq 3 (Yc (Zb (Za 1) eNil))) (Zf (Xm cT cW) (Zy (Za 2)))):=rfl
abbrev CE(Y:List (List Way))(a:Nat)(R Q:List Nat)(v4:Option D):DL.Env:=[some (YD Y),some (nD a),some (TK R),some (AD Q),v4]
def Y7(R:List Nat):List Way->List Nat
 | []=>[]
 |w::r=>if w.2∈R then Y7 R r else w.2::Y7 (R++[w.2]) r
theorem Zao:∀(r:List Way)(R:List Nat),R.Nodup->(R++Y7 R r).Nodup/\(∀x,x∈R++Y7 R r ↔ x∈R\/∃w∈r,w.2=x)
 | [],R,h=>⟨by simpa [Y7]using h,λx=>by simp [Y7]⟩
 |w::r,R,h=>by
  unfold Y7
  by_cases hw:w.2∈R
  · rw [if_pos hw]
    obtain⟨h1,h2⟩:=Zao r R h;refine⟨h1,λx => ?_⟩;rw [h2];constructor
    · rintro(z|⟨u,hu,e⟩)
      · exact .inl z
      · exact .inr ⟨u,List.mem_cons_of_mem _ hu,e⟩
    · rintro(z|⟨u,hu,e⟩)
      · exact .inl z
      · rcases List.mem_cons.mp hu with rfl|hu
        · exact .inl (e▸hw)
        · exact .inr ⟨u,hu,e⟩
  · rw [if_neg hw]
    have hn:(R++[w.2]).Nodup:=by
     rw [List.nodup_append];exact⟨h,by simp,λa ha b hb z=>hw (by rw [<-List.mem_singleton.mp hb,<-z];exact ha)⟩
    obtain⟨h1,h2⟩:=Zao r (R++[w.2]) hn;rw [List.append_assoc]at h1 h2;refine⟨h1,λx => ?_⟩;have e0:R++w.2::Y7 (R++[w.2]) r=R++([w.2]++Y7 (R++[w.2]) r):=rfl;rw [e0,h2,List.mem_append,List.mem_singleton];constructor
    · rintro((z|z)|⟨u,hu,e⟩)
      · exact .inl z
      · exact .inr ⟨w,List.mem_cons_self,z.symm⟩
      · exact .inr ⟨u,List.mem_cons_of_mem _ hu,e⟩
    · rintro(z|⟨u,hu,e⟩)
      · exact .inl (.inl z)
      · rcases List.mem_cons.mp hu with rfl|hu
        · exact .inl (.inr e.symm)
        · exact .inr ⟨u,hu,e⟩
theorem Zku(a:Nat):∀(r:List Way)(R Q:List Nat)(v4:Option D),R.length+r.length<=300->Q.length+r.length<=300->∃w4,Z0 (Zw 4) cB (r.map wyD) (CE Y a R Q v4)=some (.nx (CE Y a (R++Y7 R r) (Q++Y7 R r) w4))
 | [],R,Q,v4,_,_=>⟨v4,by unfold Y7;rw [List.append_nil,List.append_nil];rfl⟩
 |w::r,R,Q,v4,h1,h2=>by
  rw [List.length_cons]at h1 h2;have e0:(eOp ixD (Za 4) (eC (.int 1))) (CE Y a R Q (some (wyD w)))=some (nD w.2):=(Zh (x:=wyD w) (y:=.int 1) rfl rfl).trans (Up w);have e1:xB (eOp (inK true) (eOp ixD (Za 4) (eC (.int 1))) (Za 2)) (CE Y a R Q (some (wyD w)))=some (!decide (w.2∈R)):=ZN ((Zh (x:=nD w.2) (y:=TK R) e0 rfl).trans (Zf4 w.2 R))
  by_cases hw:w.2∈R
  · obtain⟨w4,ih⟩:=Zku a r R Q (some (wyD w)) (by omega) (by omega)
    refine⟨w4,?_⟩;rw [decide_eq_true hw]at e1;have e2:cB (CE Y a R Q (some (wyD w)))=some (.nx (CE Y a R Q (some (wyD w)))):=(Yo e1).trans rfl;unfold Y7;rw [if_pos hw,List.map_cons];unfold Z0;rw [show Zw 4 (wyD w) (CE Y a R Q v4)=some (CE Y a R Q (some (wyD w)))from rfl];dsimp only;rw [e2];exact ih
  · obtain⟨w4,ih⟩:=Zku a r (R++[w.2]) (Q++[w.2]) (some (wyD w)) (by rw [List.length_append,List.length_singleton];omega) (by rw [List.length_append,List.length_singleton];omega)
    refine⟨w4,?_⟩;rw [decide_eq_false hw]at e1
    have t1:Xv 2 (eOp ixD (Za 4) (eC (.int 1))) (eC (.bl true)) (CE Y a R Q (some (wyD w)))=some (.nx (CE Y a (R++[w.2]) Q (some (wyD w)))):=by
     refine(Zf6 (tk:=R) (t:=w.2) rfl e0 (by omega)).trans ?_;unfold ins;rw [if_neg hw];rfl
    have e0':(eOp ixD (Za 4) (eC (.int 1))) (CE Y a (R++[w.2]) Q (some (wyD w)))=some (nD w.2):=(Zh (x:=wyD w) (y:=.int 1) rfl rfl).trans (Up w)
    have e2:cB (CE Y a R Q (some (wyD w)))=some (.nx (CE Y a (R++[w.2]) (Q++[w.2]) (some (wyD w)))):=by
     refine(XM e1).trans ((Zu t1).trans ((V7 (xs:=Q.map nD) (d:=nD w.2) rfl e0' (by rw [List.length_map];omega)).trans ?_));have em:Q.map nD++[nD w.2]=(Q++[w.2]).map nD:=by rw [List.map_append];rfl
     rw [em];rfl
    unfold Y7;rw [if_neg hw,List.map_cons];unfold Z0;rw [show Zw 4 (wyD w) (CE Y a R Q v4)=some (CE Y a R Q (some (wyD w)))from rfl];dsimp only;rw [e2];rw [List.append_assoc,List.append_assoc]at ih;exact ih
theorem Zf7{j:Nat}{α:DL.Env->Option D}{δ:DL.Env}{x y:D}{xs ds:List D}(h1:α δ=some x)(h2:Za j δ=some (.lst (xs++[y])))(h3:ixD x y=some (.tup ds)):Qx j α δ=some (ds,δ.set j (some (.lst xs))):=by
 unfold Qx;rw [h1,h2];dsimp only
 have e:(xs++[y])[(xs++[y]).length-1]? = some y:=by
  rw [List.length_append,List.length_singleton,Nat.add_sub_cancel,List.getElem?_append_right (Nat.le_refl _),Nat.sub_self];rfl
 rw [e];dsimp only;rw [show ZH (λ_=>ixD x y) []=some ds by unfold ZH;rw [h3],List.dropLast_concat]
theorem Zh5{ι:DL.Env->Option (List D×DL.Env)}{γ:D->DL.Env->Option DL.Env}{φ:DL.Env->Option Out}{δ δ':DL.Env}{xs:List D}{o:Out}(h1:ι δ=some (xs,δ'))(h2:Z0 γ φ xs δ'=some o):Qw ι γ φ δ=some o:=by
 unfold Qw;rw [h1];exact h2
structure CS(m a:Nat)(Y:List (List Way))(R Q:List Nat):Prop where
 nd:R.Nodup
 lt:∀x∈R,x<m
 ql:Q.length<=R.length+1
 sub:∀x∈Q,x<m
 cl:∀x,(x∈R\/x=a)->x∉Q->∀w∈Y.getD x [],w.2∈R
def cM(m:Nat):DL.Env->Nat
 | [_,_,some (.dct ks _),some (.lst ws),_]=>ws.length+2*(m-ks.length)
 |_=>0
theorem ZiW(a:Nat)(R Q:List Nat)(v4:Option D):cM m (CE Y a R Q v4)=Q.length+2*(m-R.length):=by
 show(Q.map nD).length+2*(m-(tkK R).length)=_;rw [List.length_map,List.length_map]
theorem Zd6{R:List Nat}(h:R.Nodup)(hl:∀x∈R,x<m):R.length<=m:=by
 have:=UM R (List.range m) h λx hx=>List.mem_range.mpr (hl x hx)
 rwa [List.length_range]at this
theorem Zh6(h:Ok n m W hs Y){a:Nat}(ha:a<m):∃R,Q9 [YD Y,nD a]=some (TK R)/\R.length=m:=by
 have hm5:=h.m5
 obtain⟨δ',h1,R,v4,e,hS⟩:=JR (τ:=cT) (φ:=cW) (λδ=>∃R Q v4,δ=CE Y a R Q v4/\CS m a Y R Q) (λδ=>∃R v4,δ=CE Y a R [] v4/\CS m a Y R []) (cM m) (by
  rintro δ ⟨R,Q,v4,rfl,hS⟩
  have ht:cT (CE Y a R Q v4)=some (decide ((0:Int)<(Q.length:Int))):=by
   refine ZN ((Zh (x:=.int ((Q.map nD).length:Int)) (y:=.int 0) ((ZI (Zi (x:=AD Q) rfl nil_of)).trans Zh1) rfl).trans ?_);rw [List.length_map];rfl
  rcases List.eq_nil_or_concat Q with hQ|⟨Q0,b,hQ⟩
  · subst hQ
    exact .inl ⟨ht,R,v4,rfl,hS⟩
  · rw [List.concat_eq_append]at hQ
    subst hQ;have hb:b<m:=hS.sub b (List.mem_append_right _ (List.mem_singleton.mpr rfl));have hrl:=h.rl _ (h.row hb).2;have hRl:=Zd6 hS.nd hS.lt;have hql:=hS.ql;rw [List.length_append,List.length_singleton]at hql;obtain⟨w4,g⟩:=Zku (Y:=Y) a (Y.getD b []) R Q0 v4 (by omega) (by omega);obtain⟨k1,k2⟩:=Zao (Y.getD b []) R hS.nd
    have k3:∀x∈R++Y7 R (Y.getD b []),x<m:=λx hx=>by
     rcases(k2 x).mp hx with z|⟨w,hw,e⟩
     · exact hS.lt x z
     · rw [<-e];exact h.tg _ (h.row hb).2 w hw
    have hRl2:=Zd6 k1 k3;rw [List.length_append]at hRl2;refine .inr ⟨?_,CE Y a (R++Y7 R (Y.getD b [])) (Q0++Y7 R (Y.getD b [])) w4,Zh5 (Zf7 (x:=YD Y) (y:=nD b) (xs:=Q0.map nD) rfl ?_ (UL h hb)) g,⟨_,_,_,rfl,⟨k1,k3,?_,?_,?_⟩⟩,?_⟩
    · rw [ht,List.length_append,List.length_singleton]
      exact congrArg some (decide_eq_true (by omega))
    · show some (AD (Q0++[b]))=_
      rw [AD,List.map_append];rfl
    · rw [List.length_append,List.length_append];omega
    · intro x hx
      rcases List.mem_append.mp hx with z|z
      · exact hS.sub x (List.mem_append_left _ z)
      · exact k3 x (List.mem_append_right _ z)
    · intro x hx hn w hw
      by_cases hxb:x=b
      · subst hxb
        exact(k2 w.2).mpr (.inr ⟨w,hw,rfl⟩)
      · have hn1:x∉Q0:=λz=>hn (List.mem_append_left _ z)
        have hn2:x∉Y7 R (Y.getD b []):=λz=>hn (List.mem_append_right _ z)
        have hx':x∈R\/x=a:=by
         rcases hx with z|z
         · rcases List.mem_append.mp z with z|z
           · exact .inl z
           · exact absurd z hn2
         · exact .inr z
        exact List.mem_append_left _ (hS.cl x hx' (λz=>by
         rcases List.mem_append.mp z with z|z
         · exact hn1 z
         · exact hxb (List.mem_singleton.mp z)) w hw)
    · rw [ZiW,ZiW,List.length_append,List.length_append,List.length_append,List.length_singleton]
      omega) (CE Y a [] [a] none) ⟨_,_,_,rfl,⟨List.nodup_nil,(λx z=>by cases z),Nat.le_refl _,(λx hx=>by rw [List.mem_singleton.mp hx];exact ha),λx hx hn=>by
    rcases hx with z|z
    · cases z
    · exact absurd (List.mem_singleton.mpr z) hn⟩⟩
 subst e;refine⟨R,YE (δ:=[some (YD Y),some (nD a),none,none,none]) rfl ?_,?_⟩
 · rw [Zh4,Zu (δ':=[some (YD Y),some (nD a),some (TK []),none,none]) (ZK rfl),Zu (δ':=CE Y a [] [a] none) (ZK (XN (ds:=[nD a]) rfl (by show 1<=1000;decide))),Zu h1]
   exact Yn rfl
 · obtain⟨p0,hp0⟩:=h.ne ha
   have h0:p0.2∈R:=hS.cl a (.inr rfl) (by simp) p0 hp0;have all:=h.st (λx=>x∈R) (λk _ hk p hp=>hS.cl k (.inl hk) (by simp) p hp) p0.2 (hS.lt _ h0) h0;refine Nat.le_antisymm (Zd6 hS.nd hS.lt) ?_;have:=UM (List.range m) R List.nodup_range λk hk=>all k (List.mem_range.mp hk)
   rwa [List.length_range]at this
end
end K39
namespace K39
open DL L2
section
variable{n m:Nat}{W:List Nat}{hs:List Int}{Y:List (List Way)}
theorem eqZ(a b:Int):eqD (.int a) (.int b)=some (.bl (decide (a=b))):=by
 show some (D.bl (decide (V.int a=V.int b)))=_
 by_cases h:a=b<;>simp [h]
theorem neZ(a b:Int):neD (.int a) (.int b)=some (.bl (!decide (a=b))):=by
 unfold neD;rw [eqZ]
def tC:DL.Env->Option D:=(eCB ZZ (Zb (Za 0) eNil))
theorem ZgL(ps:List Way)(hl:ps.length<=1000):U1 [.lst (ps.map wyD)]=some (ZA ps):=by
 refine YE (δ:=[some (.lst (ps.map wyD))]) rfl ?_;refine(Zu ((Yo (JP (ZN (JS (d:=.lst (ps.map wyD)) rfl rfl)))).trans rfl)).trans (Yn ?_);exact(ZI (Zi (Yx (δ0:=[none]) (xs:=ps.map wyD) rfl rfl (YW (ε:=tC) wyD wyD ps λp _=>⟨[some (wyD p)],rfl,(ZI (Zi (x:=wyD p) rfl nil_of)).trans rfl⟩) (by rw [List.length_map];omega)) nil_of)).trans rfl
def iC:DL.Env->Option D:=(Va Q7 (Za 0))
theorem Za5:∀ps:List Way,UA (ps.map λ_=>D.bl true)=some (ps.map λ_=>true)
 | []=>rfl
 |p::ps=>by
  rw [List.map_cons,UA,Za5 ps];rfl
theorem ZgM:∀ps:List Way,(ps.map λ_=>true).all id=true
 | []=>rfl
 |p::ps=>by
  rw [List.map_cons,List.all_cons,ZgM ps];rfl
theorem ZcH(ps:List Way)(hl:ps.length<=1000):U1 [ZA ps]=some (ZA ps):=by
 refine YE (δ:=[some (ZA ps)]) rfl ?_
 have e:eCB (QV λbs=>bs.all id) (Zb (ZF (ZH (Za 0)) (Zw 0) (λ_=>some true) iC 1 []) eNil) [some (ZA ps)]=some (.bl true):=by
  refine(ZI (Zi (Yx (δ0:=[none]) (xs:=ps.map wyD) rfl rfl (YW (ε:=iC) wyD (λ_ => .bl true) ps λp _=>⟨[some (wyD p)],rfl,JS (d:=wyD p) rfl rfl⟩) (by rw [List.length_map];omega)) nil_of)).trans ?_;unfold QV;dsimp only;rw [Za5];dsimp only;rw [ZgM]
 refine(U0 ((XM (UJ (ZN (JS (d:=ZA ps) rfl rfl)) (ZN e))).trans (Yn rfl)))
noncomputable def kE:DL.Env->Option D:=(ZB 1 U1 [] (Zb (Za 0) eNil))
def Z4(W:List Nat)(hs:List Int)(Y:List (List Way)):D := .obj "Web" ["homes", "weights", "ways"] [HD hs,WD W,YD Y]
theorem Zbi(f:List Way->D)(hf:∀r∈Y,U1 [f r]=some (ZA r))(h0 h1 h2:D)(e0:ZZ [h0]=some (HD hs))(e1:ZZ [h1]=some (WD W))(e2:∀δ:DL.Env,ZH (λ_=>some h2) δ=some (Y.map f))(hl:Y.length<=100) :
 V8 [.obj "Web" [] [],h0,h1,h2]=some (Z4 W hs Y):=by
 have he:∀x0,eCB ZZ (Zb (ZF (ZH (Za 3)) (Zw 0) (λ_=>some true) kE 1 []) eNil) [x0,some h0,some h1,some h2]=some (YD Y):=λx0=>by
  refine(ZI (Zi (Yx (δ0:=[none]) (xs:=Y.map f) ?_ rfl (YW (ε:=kE) f ZA Y λa ha=>⟨[some (f a)],rfl,(Ye (n:=1) (Zi rfl nil_of) rfl).trans (hf a ha)⟩) (by rw [List.length_map];omega)) nil_of)).trans rfl;exact e2 []
 have hq:f_QS [some (.obj "Web" [] []),some h0,some h1,some h2]=some (.nx [some (Z4 W hs Y),some h0,some h1,some h2]):=by
  show Zf (Y0 0 XZ "homes" (eCB ZZ (Zb (Za 1) eNil))) (Zf (Y0 0 Yj "weights" (eCB ZZ (Zb (Za 2) eNil))) (Y0 0 Y6 "ways" (eCB ZZ (Zb (ZF (ZH (Za 3)) (Zw 0) (λ_=>some true) kE 1 []) eNil)))) _=_
  rw [Zu (δ':=[some (.obj "Web" ["homes"] [HD hs]),some h0,some h1,some h2]) (by
   unfold Y0;rw [show eCB ZZ (Zb (Za 1) eNil) [some (.obj "Web" [] []),some h0,some h1,some h2]=some (HD hs)from(ZI (Zi (x:=h0) rfl nil_of)).trans e0];rfl)]
  rw [Zu (δ':=[some (.obj "Web" ["homes", "weights"] [HD hs,WD W]),some h0,some h1,some h2]) (by
   unfold Y0;rw [show eCB ZZ (Zb (Za 2) eNil) [some (.obj "Web" ["homes"] [HD hs]),some h0,some h1,some h2]=some (WD W)from(ZI (Zi (x:=h1) rfl nil_of)).trans e1];rfl)]
  unfold Y0;rw [he];rfl
 show(match f_QS [some (.obj "Web" [] []),some h0,some h1,some h2]with
  |some (.nx δ)=>Za 0 δ
  |_=>none)=_
 rw [hq];rfl
theorem Zdb:∀l:List Int,frzL (l.map D.int)=true
 | []=>rfl
 |a::l=>by
  rw [List.map_cons,frzL,Zdb l];rfl
theorem Zdc:∀l:List Nat,frzL (l.map nD)=true
 | []=>rfl
 |a::l=>by
  rw [List.map_cons,frzL,Zdc l];rfl
theorem ZeG:∀l:List Way,frzL (l.map wyD)=true
 | []=>rfl
 |a::l=>by
  rw [List.map_cons,frzL,ZeG l];rfl
theorem ZiX:∀l:List (List Way),frzL (l.map ZA)=true
 | []=>rfl
 |a::l=>by
  rw [List.map_cons,frzL,ZiX l,Bool.and_true];show frz (.tup (a.map wyD))=true;rw [frz,ZeG]
theorem Zh7:frz (Z4 W hs Y)=true:=by
 show frzL [HD hs,WD W,YD Y]=true;rw [frzL,frzL,frzL,frzL,HD,WD,YD,frz,frz,frz,Zdb,Zdc,ZiX];rfl
abbrev Zr(W:List Nat)(hs:List Int)(Y:List (List Way)):D := .tup [HD hs,WD W,YD Y]
def lC:DL.Env->Option D:=(eCB Y5 (Zb (Za 0) eNil))
theorem Zfs(h:Ok n m W hs Y)(ns:List Int):Zj3 [.lst (ns.map D.int),Zr W hs Y]=some (Z4 W hs Y):=by
 have hm5:=h.m5;have hly:=h.ly;refine YE (δ:=[some (.lst (ns.map D.int)),some (Zr W hs Y),none,none,none,none]) rfl ?_
 have hc:xB (eOp eqD (eOp modW (ZB 2 YQ [] (Zb (Za 0) (Zb (eC (.int 1)) eNil))) (eC (.int 2))) (eC (.int 0))) [some (.lst (ns.map D.int)),some (Zr W hs Y),none,none,none,none]=some (decide ((ns.getD 1 0).fmod 2=0)):=by
  refine ZN ((Zh (x:=.int ((ns.getD 1 0).fmod 2)) (y:=.int 0) ((Zh (x:=.int (ns.getD 1 0)) (y:=.int 2) ((Ye (n:=2) (Zi rfl (Zi (x:=.int (1:Nat)) rfl nil_of)) rfl).trans (QB ns 1)) rfl).trans (Zcf (by decide))) rfl).trans (eqZ _ _))
 cases hz:decide ((ns.getD 1 0).fmod 2=0)with
 |true=>
  rw [hz]at hc;refine U0 ((XM hc).trans (Yn ?_));refine(JX (ds:=[HD hs,WD W,YD Y]) (Zi ((Zh (x:=Zr W hs Y) (y:=.int 0) rfl rfl).trans rfl) (Zi ((Zh (x:=Zr W hs Y) (y:=.int 1) rfl rfl).trans rfl) (Zi ((Zh (x:=Zr W hs Y) (y:=.int 2) rfl rfl).trans rfl) nil_of))) rfl).trans ?_;exact Zbi ZA (λr hr=>ZcH r (Nat.le_trans (h.rl r hr) (by decide))) _ _ _ rfl rfl (λ_=>rfl) (by omega)
 |false=>
  rw [hz]at hc;refine(Zu (δ':=[some (.lst (ns.map D.int)),some (Zr W hs Y),none,none,none,none]) ((Yo hc).trans rfl)).trans ?_;unfold JN;have e0:eCB Y5 (Zb (eOp ixD (Za 1) (eC (.int 0))) eNil) [some (.lst (ns.map D.int)),some (Zr W hs Y),none,none,none,none]=some (.lst (hs.map D.int)):=(ZI (Zi ((Zh (x:=Zr W hs Y) (y:=.int 0) rfl rfl).trans rfl) nil_of)).trans rfl;have e1:eCB Y5 (Zb (eOp ixD (Za 1) (eC (.int 1))) eNil) [some (.lst (ns.map D.int)),some (Zr W hs Y),none,none,none,none]=some (.lst (W.map nD)):=(ZI (Zi ((Zh (x:=Zr W hs Y) (y:=.int 1) rfl rfl).trans rfl) nil_of)).trans rfl
  have e2:ZF (ZH (eOp ixD (Za 1) (eC (.int 2)))) (Zw 0) (λ_=>some true) lC 1 [] [some (.lst (ns.map D.int)),some (Zr W hs Y),none,none,none,none]=some (.lst (Y.map λr => .lst (r.map wyD))):=
   Yx (δ0:=[none]) (xs:=Y.map ZA) rfl rfl (YW (ε:=lC) ZA (λr => .lst (r.map wyD)) Y λr _=>⟨[some (ZA r)],rfl,(ZI (Zi (x:=ZA r) rfl nil_of)).trans rfl⟩) (by rw [List.length_map];omega)
  have e2':ZF (ZH (eOp ixD (Za 1) (eC (.int 2)))) (Zw 0) (λ_=>some true) (eCB Y5 (Zb (Za 0) eNil)) 1 [] [some (.lst (ns.map D.int)),some (Zr W hs Y),none,none,none,none]=some (.lst (Y.map λr => .lst (r.map wyD))):=e2;rw [e0,e1,e2'];dsimp only
  have em:XV "Web" 4 V8 [] (Zb (eOp ixD (Za 2) (eC (.int 0))) (Zb (eOp ixD (Za 2) (eC (.int 1))) (Zb (eOp ixD (Za 2) (eC (.int 2))) eNil))) (([some (.lst (ns.map D.int)),some (Zr W hs Y),none,none,none,none]:DL.Env).set 2 (some (.lst [.lst (hs.map D.int),.lst (W.map nD),.lst (Y.map λr => .lst (r.map wyD))])))=some (Z4 W hs Y):=by
   refine(JX (ds:=[.lst (hs.map D.int),.lst (W.map nD),.lst (Y.map λr => .lst (r.map wyD))]) (Zi ((Zh (x:=.lst [.lst (hs.map D.int),.lst (W.map nD),.lst (Y.map λr => .lst (r.map wyD))]) (y:=.int 0) rfl rfl).trans rfl) (Zi ((Zh (x:=.lst [.lst (hs.map D.int),.lst (W.map nD),.lst (Y.map λr => .lst (r.map wyD))]) (y:=.int 1) rfl rfl).trans rfl) (Zi ((Zh (x:=.lst [.lst (hs.map D.int),.lst (W.map nD),.lst (Y.map λr => .lst (r.map wyD))]) (y:=.int 2) rfl rfl).trans rfl) nil_of))) rfl).trans ?_
   exact Zbi (λr => .lst (r.map wyD)) (λr hr=>ZgL r (Nat.le_trans (h.rl r hr) (by decide))) _ _ _ rfl rfl (λ_=>rfl) (by omega)
  rw [em];dsimp only;exact if_pos ⟨Zh7,(show 2<6 by decide),(show 3<6 by decide),(show 4<6 by decide),(show 5<6 by decide)⟩
theorem Zh8(h:Ok n m W hs Y):Zj5 [Zr W hs Y]=some (.bl true):=by
 have hm5:=h.m5;have hlh:=h.lh;refine YE (δ:=[some (Zr W hs Y),none]) rfl ?_
 have hl:eCB lenD (Zb (eOp ixD (Za 0) (eC (.int 0))) eNil) [some (Zr W hs Y),none]=some (.int (m:Int)):=by
  refine(ZI (Zi ((Zh (x:=Zr W hs Y) (y:=.int 0) rfl rfl).trans rfl) nil_of)).trans ?_;show some (D.int ((hs.map D.int).length:Int))=_;rw [List.length_map,hlh]
 obtain⟨δ',h1,v,rfl⟩:=JQ (γ:=Zw 1) (φ:=(sIf (xB (eOp neD (eCB lenKD (Zb (ZB 2 Q9 [] (Zb (eOp ixD (Za 0) (eC (.int 2))) (Zb (Za 1) eNil))) eNil)) (eCB lenD (Zb (eOp ixD (Za 0) (eC (.int 0))) eNil)))) (Zy (eC (.bl false))) sNext)) (λδ=>∃v,δ=[some (Zr W hs Y),v]) (Y3 0 1 m) [some (Zr W hs Y),none] ⟨_,rfl⟩ (by
  rintro x hx δ ⟨v,rfl⟩
  obtain⟨k,hk,rfl⟩:=Zce hx;rw [show(0:Int)+(k:Nat)*1=(k:Int) by omega];obtain⟨R,hR,hRl⟩:=Zh6 h hk;refine⟨[some (Zr W hs Y),some (nD k)],rfl,[some (Zr W hs Y),some (nD k)],?_,_,rfl⟩
  have e1:eCB lenKD (Zb (ZB 2 Q9 [] (Zb (eOp ixD (Za 0) (eC (.int 2))) (Zb (Za 1) eNil))) eNil) [some (Zr W hs Y),some (nD k)]=some (.int (m:Int)):=by
   refine(ZI (Zi ((Ye (n:=2) (ds:=[YD Y,nD k]) (Zi ((Zh (x:=Zr W hs Y) (y:=.int 2) rfl rfl).trans rfl) (Zi rfl nil_of)) rfl).trans hR) nil_of)).trans ?_;show some (D.int ((tkK R).length:Int))=_;rw [List.length_map,hRl]
  have e2:eCB lenD (Zb (eOp ixD (Za 0) (eC (.int 0))) eNil) [some (Zr W hs Y),some (nD k)]=some (.int (m:Int)):=by
   refine(ZI (Zi ((Zh (x:=Zr W hs Y) (y:=.int 0) rfl rfl).trans rfl) nil_of)).trans ?_;show some (D.int ((hs.map D.int).length:Int))=_;rw [List.length_map,hlh]
  exact(Yo (ZN ((Zh e1 e2).trans ((neZ _ _).trans (by rw [decide_eq_true rfl];rfl))))).trans rfl)
 exact(Zu (Ve (Vd (j:=(m:Int)) (Zi hl nil_of) (by omega) (by omega)) h1)).trans (Yn rfl)
end
end K39
namespace K39
open DL L2
section
variable{n m:Nat}{W:List Nat}{hs:List Int}{Y:List (List Way)}
def Z2(W:List Nat)(r:List Way):Nat:=(r.map λp=>W.getD p.2 0).sum
theorem Zbj:∀l:List Nat,(l.map λa=>((a:Nat):Int)).sum=((l.sum:Nat):Int)
 | []=>rfl
 |a::l=>by
  rw [List.map_cons,List.sum_cons,List.sum_cons,Zbj l]
  push_cast
  rfl
theorem U3:∀l:List Nat,YV (l.map nD)=some (l.map λa=>((a:Nat):Int))
 | []=>rfl
 |a::l=>by
  rw [List.map_cons,YV,U3 l];rfl
theorem ZcI(l:List Nat):sumLD [.lst (l.map nD)]=some (.int (l.sum:Nat)):=by
 unfold sumLD;dsimp only;rw [U3];dsimp only;rw [Zbj]
def wC:DL.Env->Option D:=(eOp ixD (Za 1) (eOp ixD (Za 0) (eC (.int 1))))
theorem Zh9(h:Ok n m W hs Y){r:List Way}(hr:r∈Y):YB (Zw 0) (λ_=>some true) wC [none,some (WD W)] (r.map wyD)=some ((r.map λp=>W.getD p.2 0).map nD):=by
 rw [List.map_map];exact YW (ε:=wC) wyD _ r λp hp=>⟨[some (wyD p),some (WD W)],rfl,(Zh (x:=WD W) (y:=nD p.2) rfl ((Zh (x:=wyD p) (y:=.int 1) rfl rfl).trans (Up p))).trans (Xg h (h.tg r hr p hp))⟩
noncomputable def bB:DL.Env->Option Out:=(sIf (xB (eOp (Z6 λi j=>decide (i<j)) (eCB sumLD (Zb (ZF (ZH (eOp ixD (Za 4) (Za 5))) (Zw 0) (λ_=>some true) wC 1 [3]) eNil)) (eOp mulX (Za 1) (eOp ixD (Za 3) (Za 5))))) (Zy (eC (.bl false))) sNext)
theorem Zf8:f_QG=Zf (JK (Yu 3 (ZJ 2 (ZJ 3 (ZJ 4 gsNil)))) (Za 0)) (Zf (Yv (Z7 (Zb (eCB lenD (Zb (Za 2) eNil)) eNil)) (Zw 5) bB) (Zy (eC (.bl true)))):=rfl
theorem Zf9(h:Ok n m W hs Y):Zj4 [Zr W hs Y,nD n]=some (.bl true):=by
 have hm5:=h.m5;have hlh:=h.lh;have hn6:=h.n6;refine YE (δ:=[some (Zr W hs Y),some (nD n),none,none,none,none]) rfl ?_;rw [Zf8,Zu (δ':=[some (Zr W hs Y),some (nD n),some (HD hs),some (WD W),some (YD Y),none]) rfl]
 have hl:eCB lenD (Zb (Za 2) eNil) [some (Zr W hs Y),some (nD n),some (HD hs),some (WD W),some (YD Y),none]=some (.int (m:Int)):=by
  refine(ZI (Zi (x:=HD hs) rfl nil_of)).trans ?_;show some (D.int ((hs.map D.int).length:Int))=_;rw [List.length_map,hlh]
 obtain⟨δ',h1,v,rfl⟩:=JQ (γ:=Zw 5) (φ:=bB) (λδ=>∃v,δ=[some (Zr W hs Y),some (nD n),some (HD hs),some (WD W),some (YD Y),v]) (Y3 0 1 m) [some (Zr W hs Y),some (nD n),some (HD hs),some (WD W),some (YD Y),none] ⟨_,rfl⟩ (by
  rintro x hx δ ⟨v,rfl⟩
  obtain⟨k,hk,rfl⟩:=Zce hx;rw [show(0:Int)+(k:Nat)*1=(k:Int) by omega];have hr:=(h.row hk).2;refine⟨[some (Zr W hs Y),some (nD n),some (HD hs),some (WD W),some (YD Y),some (nD k)],rfl,[some (Zr W hs Y),some (nD n),some (HD hs),some (WD W),some (YD Y),some (nD k)],?_,_,rfl⟩
  have e1:eCB sumLD (Zb (ZF (ZH (eOp ixD (Za 4) (Za 5))) (Zw 0) (λ_=>some true) wC 1 [3]) eNil) [some (Zr W hs Y),some (nD n),some (HD hs),some (WD W),some (YD Y),some (nD k)]=some (.int (Z2 W (Y.getD k []):Nat)):=by
   refine(ZI (Zi (Yx (δ0:=[none,some (WD W)]) (xs:=(Y.getD k []).map wyD) ?_ rfl (Zh9 h hr) ?_) nil_of)).trans (ZcI _)
   · unfold ZH
     rw [(Zh (x:=YD Y) (y:=nD k) rfl rfl).trans (UL h hk)];rfl
   · rw [List.length_map,List.length_map]
     have:=h.rl _ hr;omega
  have hw:=h.w1 _ (h.wt hk).2
  have e2:eOp mulX (Za 1) (eOp ixD (Za 3) (Za 5)) [some (Zr W hs Y),some (nD n),some (HD hs),some (WD W),some (YD Y),some (nD k)]=some (.int ((n:Int)*(W.getD k 0:Nat))):=
   (Zh (x:=nD n) (y:=nD (W.getD k 0)) rfl ((Zh (x:=WD W) (y:=nD k) rfl rfl).trans (Xg h hk))).trans (JW (by omega) (by omega))
  have hb:=h.br k hk
  exact(Yo (ZN ((Zh e1 e2).trans (show some (D.bl (decide (((Z2 W (Y.getD k []):Nat):Int)<(n:Int)*(W.getD k 0:Nat))))=some (.bl false) by
   rw [decide_eq_false];have:n*W.getD k 0<=Z2 W (Y.getD k []):=hb;have h2:((n*W.getD k 0:Nat):Int)<=((Z2 W (Y.getD k []):Nat):Int):=by exact_mod_cast this
   push_cast at h2
   omega)))).trans rfl)
 exact(Zu (Ve (Vd (j:=(m:Int)) (Zi hl nil_of) (by omega) (by omega)) h1)).trans (Yn rfl)
def lesser(W:List Nat)(w:Nat)(r:List Way):Option Nat:=r.findIdx? λp=>decide (W.getD p.2 0<w)
noncomputable def lB:DL.Env->Option Out:=(sIf (xB (eOp (Z6 λi j=>decide (i<j)) (eOp ixD (ZM Yj "weights" (Za 0)) (eOp ixD (Za 3) (eC (.int 1)))) (eOp ixD (ZM Yj "weights" (Za 0)) (Za 1)))) (Zy (Za 2)) sNext)
theorem Zft:f_QE=Zf (Yv (Vc (eOp ixD (ZM Y6 "ways" (Za 0)) (Za 1))) (Yu 2 (ZJ 2 (ZJ 3 gsNil))) lB) (Zy (eC .non)):=rfl
abbrev LE(W:List Nat)(hs:List Int)(Y:List (List Way))(k:Nat)(v2 v3:Option D):DL.Env:=[some (Z4 W hs Y),some (nD k),v2,v3]
def ZmH:Option Nat->D
 |some a=>nD a
 |none => .non
theorem Zma(h:Ok n m W hs Y){k:Nat}(hk:k<m):∀(r:List Way)(s:Nat)(v2 v3:Option D),(∀p∈r,p.2<m) ->
 (∃w2 w3,Z0 (Yu 2 (ZJ 2 (ZJ 3 gsNil))) lB (Yk s (r.map wyD)) (LE W hs Y k v2 v3)=some (.nx (LE W hs Y k w2 w3))/\lesser W (W.getD k 0) r=none) \/
 (∃j,Z0 (Yu 2 (ZJ 2 (ZJ 3 gsNil))) lB (Yk s (r.map wyD)) (LE W hs Y k v2 v3)=some (.rt (nD (s+j)))/\lesser W (W.getD k 0) r=some j)
 | [],s,v2,v3,_ => .inl ⟨v2,v3,rfl,rfl⟩
 |p::r,s,v2,v3,hp=>by
  have e:Yk s ((p::r).map wyD) = .tup [nD s,wyD p]::Yk (s+1) (r.map wyD):=rfl;have hp0:=hp p List.mem_cons_self;have g:Yu 2 (ZJ 2 (ZJ 3 gsNil)) (.tup [nD s,wyD p]) (LE W hs Y k v2 v3)=some (LE W hs Y k (some (nD s)) (some (wyD p))):=rfl
  have e1:xB (eOp (Z6 λi j=>decide (i<j)) (eOp ixD (ZM Yj "weights" (Za 0)) (eOp ixD (Za 3) (eC (.int 1)))) (eOp ixD (ZM Yj "weights" (Za 0)) (Za 1))) (LE W hs Y k (some (nD s)) (some (wyD p)))=some (decide (W.getD p.2 0<W.getD k 0)):=by
   refine ZN ((Zh (x:=nD (W.getD p.2 0)) (y:=nD (W.getD k 0)) ((Zh (x:=WD W) (y:=nD p.2) rfl ((Zh (x:=wyD p) (y:=.int 1) rfl rfl).trans (Up p))).trans (Xg h hp0)) ((Zh (x:=WD W) (y:=nD k) rfl rfl).trans (Xg h hk))).trans ?_);show some (D.bl (decide (((W.getD p.2 0:Nat):Int)<((W.getD k 0:Nat):Int))))=_
   by_cases hz:W.getD p.2 0<W.getD k 0
   · rw [decide_eq_true hz,decide_eq_true (by omega)]
   · rw [decide_eq_false hz,decide_eq_false (by omega)]
  rw [e]
  by_cases hz:W.getD p.2 0<W.getD k 0
  · refine .inr ⟨0,?_,?_⟩
    · rw [decide_eq_true hz]at e1
      unfold Z0;rw [g];dsimp only;rw [show lB (LE W hs Y k (some (nD s)) (some (wyD p)))=some (.rt (nD s))from(XM e1).trans (Yn rfl)];rfl
    · unfold lesser
      rw [List.findIdx?_cons,decide_eq_true hz];rfl
  · rw [decide_eq_false hz]at e1
    have st:Z0 (Yu 2 (ZJ 2 (ZJ 3 gsNil))) lB (.tup [nD s,wyD p]::Yk (s+1) (r.map wyD)) (LE W hs Y k v2 v3)=Z0 (Yu 2 (ZJ 2 (ZJ 3 gsNil))) lB (Yk (s+1) (r.map wyD)) (LE W hs Y k (some (nD s)) (some (wyD p))):=by
     conv=>lhs;unfold Z0
     rw [g];dsimp only;rw [show lB (LE W hs Y k (some (nD s)) (some (wyD p)))=some (.nx (LE W hs Y k (some (nD s)) (some (wyD p))))from(Yo e1).trans rfl]
    rw [st];rcases Zma h hk r (s+1) (some (nD s)) (some (wyD p)) (λq hq=>hp q (List.mem_cons_of_mem _ hq))with⟨w2,w3,i1,i2⟩|⟨j,i1,i2⟩
    · refine .inl ⟨w2,w3,i1,?_⟩
      unfold lesser at i2 ⊢;rw [List.findIdx?_cons,decide_eq_false hz,i2];rfl
    · refine .inr ⟨j+1,?_,?_⟩
      · rw [i1,show s+1+j=s+(j+1) by omega]
      · unfold lesser at i2 ⊢
        rw [List.findIdx?_cons,decide_eq_false hz,i2];rfl
theorem ZbK(h:Ok n m W hs Y){k:Nat}(hk:k<m):U2 [Z4 W hs Y,nD k]=some (ZmH (lesser W (W.getD k 0) (Y.getD k []))):=by
 refine YE (δ:=LE W hs Y k none none) rfl ?_;rw [Zft]
 have hi:Vc (eOp ixD (ZM Y6 "ways" (Za 0)) (Za 1)) (LE W hs Y k none none)=some (Yk 0 ((Y.getD k []).map wyD)):=by
  unfold Vc;rw [(Zh (x:=YD Y) (y:=nD k) rfl rfl).trans (UL h hk)];rfl
 rcases Zma h hk (Y.getD k []) 0 none none (λp hp=>h.tg _ (h.row hk).2 p hp)with⟨w2,w3,i1,i2⟩|⟨j,i1,i2⟩
 · rw [i2]
   exact(Zu (Ve hi i1)).trans (Yn rfl)
 · rw [i2]
   refine(U0 (Ve hi i1)).trans ?_;rw [Nat.zero_add];rfl
end
end K39
namespace K39
open DL L2
def ixo(t:Nat):List Nat->Nat
 | []=>0
 |p::P=>if p=t then 0 else ixo t P+1
theorem ZgN{t:Nat}:∀{P:List Nat},t∈P->ixo t P<P.length
 |p::P,h=>by
  unfold ixo
  by_cases e:p=t
  · rw [if_pos e];exact Nat.zero_lt_succ _
  · rw [if_neg e,List.length_cons]
    have:=ZgN (t:=t) (P:=P) ((List.mem_cons.mp h).resolve_left λz=>e z.symm);omega
theorem ZgO{t:Nat}:∀{P:List Nat},t∈P->P[ixo t P]? = some t
 |p::P,h=>by
  unfold ixo
  by_cases e:p=t
  · rw [if_pos e,e];rfl
  · rw [if_neg e,List.getElem?_cons_succ]
    exact ZgO ((List.mem_cons.mp h).resolve_left λz=>e z.symm)
def PLD(P:List Nat):D := .dct (tkK P) ((List.range P.length).map nD)
theorem ZeH(t:Nat):∀(P:List Nat)(s:Nat),t∈P->UI (.inl (t:Int)) (tkK P) ((List.range' s P.length).map nD)=some (nD (s+ixo t P))
 |p::P,s,h=>by
  rw [List.length_cons,List.range'_succ,List.map_cons];show(if(.inl (p:Int):Key) = .inl (t:Int)then some (nD s)else UI (.inl (t:Int)) (tkK P) ((List.range' (s+1) P.length).map nD))=_;unfold ixo
  by_cases e:p=t
  · rw [if_pos (by rw [e]),if_pos e]
    rfl
  · rw [if_neg (λz=>e (by have:=Sum.inl.inj z;omega)),if_neg e,ZeH t P (s+1) ((List.mem_cons.mp h).resolve_left λz=>e z.symm),show s+1+ixo t P=s+(ixo t P+1) by omega]
theorem ZjI{t:Nat}{P:List Nat}(h:t∈P):Qu (PLD P) (.int (t:Int))=some (nD (ixo t P)):=by
 show UI (.inl (t:Int)) (tkK P) ((List.range P.length).map nD)=_;rw [List.range_eq_range',ZeH t P 0 h,Nat.zero_add]
theorem ZjJ(t:Nat)(P:List Nat):inK false (.int (t:Int)) (PLD P)=some (.bl (decide (t∈P))):=by
 show some (D.bl (false != Xu (.inl (t:Int)) (tkK P)))=_;rw [QE];cases decide (t∈P)<;>rfl
theorem Zia{i:Nat}{κ ε:DL.Env->Option D}{δ:DL.Env}{P:List Nat}{t:Nat}(h1:Za i δ=some (PLD P))(h2:κ δ=some (nD t))(h3:ε δ=some (nD P.length))(hn:t∉P)(hl:P.length<=1000):Xv i κ ε δ=some (.nx (δ.set i (some (PLD (P++[t]))))):=by
 unfold Xv;rw [h1,h2,h3];show(if(tkK P).length<PySem.sizeLine then some (Out.nx (δ.set i (some (Vy (tkK P) ((List.range P.length).map nD) (.inl (t:Int)) (nD P.length)))))else none)=_;rw [if_pos (by rw [List.length_map,PySem.sizeLine_eq];omega)];unfold Vy;rw [QE,decide_eq_false hn,if_neg (by simp)];unfold PLD tkK;rw [List.length_append,List.length_singleton,List.range_succ,List.map_append,List.map_append]
 rfl
theorem Zga(a n:Nat):(a:Int).fmod (n:Int)=((a % n:Nat):Int):=by
 rw [Int.fmod_eq_emod_of_nonneg _ (Int.natCast_nonneg n)];exact(Int.natCast_emod a n).symm
theorem U4{a n:Nat}(h:1<=n):modW (nD a) (nD n)=some (nD (a % n)):=by
 rw [Zcf (by omega),Zga]
def Z5(n:Nat)(ms:List Nat):List Nat:=(List.range (ms.length+1)).map λi=>(ms.take i).sum % n
theorem Zak(n:Nat)(ms:List Nat):(Z5 n ms).length=ms.length+1:=by simp [Z5]
theorem Za6(n:Nat)(ms:List Nat)(x:Nat):Z5 n (ms++[x])=Z5 n ms++[(ms.sum+x) % n]:=by
 unfold Z5;rw [List.length_append,List.length_singleton,List.range_succ (n:=ms.length+1),List.map_append]
 congr 1
 · refine List.map_congr_left λi hi => ?_
   rw [List.take_append_of_le_length (by have:=List.mem_range.mp hi;omega)]
 · show [((ms++[x]).take (ms.length+1)).sum % n]=_
   rw [List.take_of_length_le (by simp),List.sum_append];simp
theorem Zgb{n:Nat}{ms:List Nat}{i:Nat}(h:i<=ms.length):(Z5 n ms)[i]? = some ((ms.take i).sum % n):=by
 unfold Z5;rw [List.getElem?_map,List.getElem?_range (by omega)];rfl
noncomputable def eB:DL.Env->Option Out:=(Zf (Zq 3 (eOp addX (Za 3) (Za 5))) (Zf (sIf (xB (eOp (inK false) (eOp modW (Za 3) (Za 1)) (Za 2))) (Zy (Yi (Zb (eOp Qu (Za 2) (eOp modW (Za 3) (Za 1))) (Zb (Za 4) eNil)))) sNext) (Xv 2 (eOp modW (Za 3) (Za 1)) (Za 4))))
theorem Zib:f_QH=Zf (Zq 2 (JJ (eC (.int 0)) (eC (.int 0)))) (Zf (Zq 3 (eC (.int 0))) (Zf (Yv (QX (Za 0)) (Yu 2 (ZJ 4 (ZJ 5 gsNil))) eB) (Zy (Yi (Zb (eC (.int 0)) (Zb (eC (.int 0)) eNil)))))):=rfl
abbrev EE(ms:List Nat)(n:Nat)(P:List Nat)(t:Nat)(v4 v5:Option D):DL.Env:=[some (AD ms),some (nD n),some (PLD P),some (nD t),v4,v5]
theorem Zmb{n:Nat}(hn:1<=n)(ms:List Nat)(hl:ms.length<=100):∀(rest dn:List Nat)(v4 v5:Option D),dn++rest=ms->(Z5 n dn).Nodup ->
 (∃w4 w5,Z0 (Yu 2 (ZJ 4 (ZJ 5 gsNil))) eB (Yk (dn.length+1) (rest.map nD)) (EE ms n (Z5 n dn) dn.sum v4 v5)=some (.nx (EE ms n (Z5 n ms) ms.sum w4 w5))/\(Z5 n ms).Nodup) \/
 (∃a b,Z0 (Yu 2 (ZJ 4 (ZJ 5 gsNil))) eB (Yk (dn.length+1) (rest.map nD)) (EE ms n (Z5 n dn) dn.sum v4 v5)=some (.rt (.tup [nD a,nD b]))/\a<b/\b<=ms.length/\(ms.take b).sum % n=(ms.take a).sum % n)
 | [],dn,v4,v5,e,hd=>by
  rw [List.append_nil]at e;subst e;exact .inl ⟨v4,v5,rfl,hd⟩
 |x::rest,dn,v4,v5,e,hd=>by
  have hlen:=congrArg List.length e;rw [List.length_append,List.length_cons]at hlen;have e0:Yk (dn.length+1) ((x::rest).map nD) = .tup [nD (dn.length+1),nD x]::Yk (dn.length+1+1) (rest.map nD):=rfl;have g:Yu 2 (ZJ 4 (ZJ 5 gsNil)) (.tup [nD (dn.length+1),nD x]) (EE ms n (Z5 n dn) dn.sum v4 v5)=some (EE ms n (Z5 n dn) dn.sum (some (nD (dn.length+1))) (some (nD x))):=rfl
  have t1:Zq 3 (eOp addX (Za 3) (Za 5)) (EE ms n (Z5 n dn) dn.sum (some (nD (dn.length+1))) (some (nD x)))=some (.nx (EE ms n (Z5 n dn) (dn.sum+x) (some (nD (dn.length+1))) (some (nD x)))):=by
   refine(ZK ((Zh (x:=nD dn.sum) (y:=nD x) rfl rfl).trans (add_int _ _))).trans ?_;show some (Out.nx [_,_,_,some (D.int ((dn.sum:Int)+(x:Int))),_,_])=_;rw [show((dn.sum:Int)+(x:Int))=((dn.sum+x:Nat):Int) by push_cast;rfl]
  have em:(eOp modW (Za 3) (Za 1)) (EE ms n (Z5 n dn) (dn.sum+x) (some (nD (dn.length+1))) (some (nD x)))=some (nD ((dn.sum+x) % n)):=(Zh (x:=nD (dn.sum+x)) (y:=nD n) rfl rfl).trans (U4 hn);have ei:xB (eOp (inK false) (eOp modW (Za 3) (Za 1)) (Za 2)) (EE ms n (Z5 n dn) (dn.sum+x) (some (nD (dn.length+1))) (some (nD x)))=some (decide ((dn.sum+x) % n∈Z5 n dn)):=ZN ((Zh em rfl).trans (ZjJ _ _))
  have tk:ms.take (dn.length+1)=dn++[x]:=by
   rw [<-e,List.take_append,List.take_of_length_le (Nat.le_succ _),Nat.add_sub_cancel_left];rfl
  rw [e0]
  by_cases hz:(dn.sum+x) % n∈Z5 n dn
  · rw [decide_eq_true hz]at ei
    have hx:=ZgN hz;rw [Zak]at hx;refine .inr ⟨ixo ((dn.sum+x) % n) (Z5 n dn),dn.length+1,?_,hx,by omega,?_⟩
    · have eb : eB (EE ms n (Z5 n dn) dn.sum (some (nD (dn.length + 1))) (some (nD x))) = some (.rt (.tup [nD (ixo ((dn.sum + x) % n) (Z5 n dn)), nD (dn.length + 1)])) := by
       refine(Zu t1).trans (U0 ((XM ei).trans (Yn (Vz (Zi ((Zh rfl em).trans (ZjI hz)) (Zi rfl nil_of)) (by show 2<=1000;decide)))))
      unfold Z0;rw [g];dsimp only;rw [eb]
    · have h1:=ZgO hz
      rw [Zgb (by omega)]at h1;have h1:=Option.some.inj h1;rw [tk,List.sum_append]
      have h2:ms.take (ixo ((dn.sum+x) % n) (Z5 n dn))=dn.take (ixo ((dn.sum+x) % n) (Z5 n dn)):=by
       rw [<-e,List.take_append_of_le_length (by omega)]
      rw [h2,h1];simp
  · rw [decide_eq_false hz]at ei
    have hd2:(Z5 n (dn++[x])).Nodup:=by
     rw [Za6,List.nodup_append];exact⟨hd,by simp,λa ha b hb z=>hz (by rw [<-List.mem_singleton.mp hb,<-z];exact ha)⟩
    have eb:eB (EE ms n (Z5 n dn) dn.sum (some (nD (dn.length+1))) (some (nD x)))=some (.nx (EE ms n (Z5 n (dn++[x])) (dn++[x]).sum (some (nD (dn.length+1))) (some (nD x)))):=by
     refine(Zu t1).trans ((Zu ((Yo ei).trans rfl)).trans ((Zia (P:=Z5 n dn) (t:=(dn.sum+x) % n) rfl em (by rw [Zak];rfl) hz (by rw [Zak];omega)).trans ?_));rw [Za6,List.sum_append];simp
    have st:Z0 (Yu 2 (ZJ 4 (ZJ 5 gsNil))) eB (.tup [nD (dn.length+1),nD x]::Yk (dn.length+1+1) (rest.map nD)) (EE ms n (Z5 n dn) dn.sum v4 v5)=Z0 (Yu 2 (ZJ 4 (ZJ 5 gsNil))) eB (Yk ((dn++[x]).length+1) (rest.map nD)) (EE ms n (Z5 n (dn++[x])) (dn++[x]).sum (some (nD (dn.length+1))) (some (nD x))):=by
     conv=>lhs;unfold Z0
     rw [g];dsimp only;rw [eb,List.length_append,List.length_singleton]
    rw [st];exact Zmb hn ms hl rest (dn++[x]) _ _ (by rw [List.append_assoc];exact e) hd2
theorem Zic{n:Nat}(hn:1<=n)(ms:List Nat)(hl:ms.length<=100)(hm:n<=ms.length):∃a b,J4 [AD ms,nD n]=some (.tup [nD a,nD b])/\a<b/\b<=ms.length/\(ms.take b).sum % n=(ms.take a).sum % n:=by
 have e0:f_QH [some (AD ms),some (nD n),none,none,none,none]=Zf (Yv (QX (Za 0)) (Yu 2 (ZJ 4 (ZJ 5 gsNil))) eB) (Zy (Yi (Zb (eC (.int 0)) (Zb (eC (.int 0)) eNil)))) (EE ms n (Z5 n []) ([]:List Nat).sum none none):=by
  rw [Zib,Zu (δ':=[some (AD ms),some (nD n),some (PLD [0 % n]),none,none,none]) (by rw [Nat.zero_mod];exact ZK rfl),Zu (ZK rfl)];rfl
 rcases Zmb hn ms hl ms [] none none rfl (by simp [Z5])with⟨w4,w5,_,hd⟩|⟨a,b,h1,h2,h3,h4⟩
 · exfalso
   have:=UM (Z5 n ms) (List.range n) hd λx hx=>by
    unfold Z5 at hx;obtain⟨i,_,rfl⟩:=List.mem_map.mp hx;exact List.mem_range.mpr (Nat.mod_lt _ hn)
   rw [Zak,List.length_range]at this;omega
 · exact⟨a,b,YE rfl (e0.trans (U0 (Ve rfl h1))),h2,h3,h4⟩
end K39
namespace K39
open DL L2
section
variable{n m:Nat}{W:List Nat}{hs:List Int}{Y:List (List Way)}
theorem ZjK(h:Ok n m W hs Y):∃M,maxQD [WD W]=some (nD M)/\M∈W/\∀w∈W,w<=M:=by
 have hl:0<(W.map λa=>((a:Nat):Int)).length:=by rw [List.length_map,h.lw];exact h.m1
 obtain⟨h1,h2⟩:=ZbF hl;obtain⟨M,hM,e⟩:=List.mem_map.mp h1;refine⟨M,?_,hM,λw hw => ?_⟩
 · unfold maxQD WD
   dsimp only;rw [U3];dsimp only;rw [if_pos hl,<-e]
 · have:=h2 _ (List.mem_map.mpr ⟨w,hw,rfl⟩)
   rw [<-e]at this;omega
theorem ZgP(h:Ok n m W hs Y):∃M,minQD [WD W]=some (nD M)/\M∈W/\∀w∈W,M<=w:=by
 have hl:0<(W.map λa=>((a:Nat):Int)).length:=by rw [List.length_map,h.lw];exact h.m1
 obtain⟨h1,h2⟩:=ZaH hl;obtain⟨M,hM,e⟩:=List.mem_map.mp h1;refine⟨M,?_,hM,λw hw => ?_⟩
 · unfold minQD WD
   dsimp only;rw [U3];dsimp only;rw [if_pos hl,<-e]
 · have:=h2 _ (List.mem_map.mpr ⟨w,hw,rfl⟩)
   rw [<-e]at this;omega
theorem UN(a b:Nat):eqD (nD a) (nD b)=some (.bl (decide (a=b))):=by
 rw [eqZ]
 by_cases h:a=b
 · rw [h];simp
 · rw [decide_eq_false h,decide_eq_false (by omega)]
theorem X2(a b:Nat):neD (nD a) (nD b)=some (.bl (!decide (a=b))):=by
 unfold neD;rw [UN]
theorem Zdd{M L:Nat}(e1:maxQD [WD W]=some (nD M))(e2:minQD [WD W]=some (nD L)):J0 [Z4 W hs Y]=some (.bl (decide (L=M))):=
 YE (δ:=[some (Z4 W hs Y)]) rfl (Yn ((Zh ((ZI (Zi (x:=WD W) rfl nil_of)).trans e2) ((ZI (Zi (x:=WD W) rfl nil_of)).trans e1)).trans (UN _ _)))
theorem Zch(h:Ok n m W hs Y):JZ [Z4 W hs Y]=some (nD m):=by
 refine YE (δ:=[some (Z4 W hs Y)]) rfl (Yn ((ZI (Zi (x:=HD hs) rfl nil_of)).trans ?_));show some (D.int ((hs.map D.int).length:Int))=_;rw [List.length_map,h.lh]
def heavy(m:Nat)(W:List Nat)(M:Nat):List Nat:=(List.range m).filter λk=>decide (W.getD k 0=M)
def UO(m:Nat)(W:List Nat)(Y:List (List Way))(M:Nat):List Nat:=(heavy m W M).filter λk=>(lesser W (W.getD k 0) (Y.getD k [])).isSome
theorem Zfu{M k:Nat}(hk:k∈UO m W Y M):k<m/\W.getD k 0=M/\∃j,lesser W M (Y.getD k [])=some j:=by
 unfold UO heavy at hk;obtain⟨h1,h2⟩:=List.mem_filter.mp hk;obtain⟨h3,h4⟩:=List.mem_filter.mp h1;have h4:W.getD k 0=M:=by simpa using h4
 rw [h4]at h2;obtain⟨j,hj⟩:=Option.isSome_iff_exists.mp h2;exact⟨List.mem_range.mp h3,h4,j,hj⟩
theorem Zai{w j:Nat}{r:List Way}(e:lesser W w r=some j):∃p,r[j]? = some p/\W.getD p.2 0<w:=by
 unfold lesser at e;obtain⟨hj,hp,_⟩:=List.findIdx?_eq_some_iff_getElem.mp e;exact⟨r[j],List.getElem?_eq_getElem hj,by simpa using hp⟩
theorem ZcB{w:Nat}{r:List Way}(e:lesser W w r=none):∀p∈r,w<=W.getD p.2 0:=λp hp=>by
 unfold lesser at e;have:=List.findIdx?_eq_none_iff.mp e p hp;simpa using this
theorem Zgc(h:Ok n m W hs Y){M:Nat}(hM:M∈W)(hx:∀w∈W,w<=M){L:Nat}(hL:L∈W)(hd:L≠M):UO m W Y M≠[]:=λhc=>by
 have all:∀k<m,W.getD k 0=M->∀p∈Y.getD k [],M<=W.getD p.2 0:=λk hk e=>by
  cases hz:lesser W (W.getD k 0) (Y.getD k [])with
  |none=>rw [e]at hz;exact ZcB hz
  |some j=>
   exfalso
   have:k∈UO m W Y M:=by
    unfold UO heavy;exact List.mem_filter.mpr ⟨List.mem_filter.mpr ⟨List.mem_range.mpr hk,by simpa using e⟩,by rw [hz];rfl⟩
   rw [hc]at this;cases this
 obtain⟨a,ha,ea⟩:=List.mem_iff_getElem.mp hM;obtain⟨b,hb,eb⟩:=List.mem_iff_getElem.mp hL;rw [h.lw]at ha hb;have hga:W.getD a 0=M:=by rw [List.getD_eq_getElem?_getD,List.getElem?_eq_getElem (by rw [h.lw];exact ha),ea];rfl
 have hgb:W.getD b 0=L:=by rw [List.getD_eq_getElem?_getD,List.getElem?_eq_getElem (by rw [h.lw];exact hb),eb];rfl
 have:=h.st (λk=>W.getD k 0=M) (λk hk e p hp=>Nat.le_antisymm (hx _ (h.wt (h.tg _ (h.row hk).2 p hp)).2) (all k hk e p hp)) a ha hga b hb;exact hd (hgb.symm.trans this)
def others(l s:Nat):List Nat:=(List.range s).filter λk => !decide (k=l)
theorem ZaV(l s:Nat)(hl:l<s):(others l s).Nodup/\(∀k∈others l s,k<s/\k≠l)/\(others l s).length=s-1:=by
 have hn:(others l s).Nodup:=List.Pairwise.filter _ List.nodup_range
 have hm:∀k,k∈others l s ↔ k<s/\k≠l:=λk=>by
  unfold others;rw [List.mem_filter,List.mem_range];simp
 refine⟨hn,λk hk=>(hm k).mp hk,?_⟩
 have h1:=UM (List.range s) (l::others l s) List.nodup_range λk hk=>by
  by_cases e:k=l
  · rw [e];exact List.mem_cons_self
  · exact List.mem_cons_of_mem _ ((hm k).mpr ⟨List.mem_range.mp hk,e⟩)
 have h2:=UM (l::others l s) (List.range s) (List.nodup_cons.mpr ⟨λz=>((hm l).mp z).2 rfl,hn⟩) λk hk=>by
  rcases List.mem_cons.mp hk with rfl|z
  · exact List.mem_range.mpr hl
  · exact List.mem_range.mpr ((hm k).mp z).1
 rw [List.length_range,List.length_cons]at h1 h2;omega
theorem ZdM{l s:Nat}(hl:l<s)(hs:s<=150)(hn:1<=n)(h6:n<=6)(hns:n<=s):∃ks:List Nat,UZ [.lst (((others l s).take (n-1)).map nD++[nD l])]=some (AD ks)/\ks.length=n/\ks.Pairwise (· < ·)/\l∈ks/\∀k∈ks,k<s:=by
 obtain⟨o1,o2,o3⟩:=ZaV l s hl
 let xs:=(others l s).take (n-1)++[l]
 have hxl:xs.length=n:=by
  show((others l s).take (n-1)++[l]).length=n;rw [List.length_append,List.length_take,o3,List.length_singleton];omega
 have hxn:xs.Nodup:=by
  show((others l s).take (n-1)++[l]).Nodup;rw [List.nodup_append];exact⟨o1.sublist (List.take_sublist _ _),by simp,λa ha b hb z=>(o2 a (List.mem_of_mem_take ha)).2 (by rw [z];exact List.mem_singleton.mp hb)⟩
 have hxs:∀k∈xs,k<s:=λk hk=>by
  rcases List.mem_append.mp hk with z|z
  · exact(o2 k (List.mem_of_mem_take z)).1
  · rw [List.mem_singleton.mp z];exact hl
 have em:((others l s).take (n-1)).map nD++[nD l]=xs.map nD:=by
  show _=((others l s).take (n-1)++[l]).map nD;rw [List.map_append];rfl
 let zs:=xs.map λa=>((a:Nat):Int)
 have hperm:(Xw zs).Perm zs:=List.mergeSort_perm zs _
 have hnn:∀z∈Xw zs,0<=z:=λz hz=>by
  obtain⟨a,_,rfl⟩:=List.mem_map.mp (hperm.mem_iff.mp hz);exact Int.natCast_nonneg a
 refine⟨(Xw zs).map Int.toNat,?_,?_,?_,?_,?_⟩
 · rw [em]
   unfold UZ;dsimp only;rw [U3];dsimp only;rw [if_pos (by rw [List.length_map,hxl];omega)];show some (D.lst ((Xw zs).map D.int))=some (D.lst (((Xw zs).map Int.toNat).map nD));rw [List.map_map]
   congr 2
   refine List.map_congr_left λz hz => ?_
   show D.int z=D.int ((z.toNat:Nat):Int);rw [Int.toNat_of_nonneg (hnn z hz)]
 · rw [List.length_map,ZbI,List.length_map,hxl]
 · rw [List.pairwise_map]
   have h1:=Zc5 zs;have h2:(Xw zs).Nodup:=hperm.nodup_iff.mpr (List.pairwise_map.mpr (hxn.imp λz e=>z (by omega)))
   exact(h1.and h2).imp_of_mem λ{a b} ha hb ⟨q1,q2⟩=>by
    have:=hnn a ha;have:=hnn b hb;omega
 · refine List.mem_map.mpr ⟨(l:Int),hperm.mem_iff.mpr (List.mem_map.mpr ⟨l,List.mem_append_right _ (List.mem_singleton.mpr rfl),rfl⟩),Int.toNat_natCast l⟩
 · intro k hk
   obtain⟨z,hz,rfl⟩:=List.mem_map.mp hk;obtain⟨a,ha,rfl⟩:=List.mem_map.mp (hperm.mem_iff.mp hz);rw [Int.toNat_natCast];exact hxs a ha
end
end K39
namespace K39
open DL L2
theorem Zid{α:Type}(r:List α)(j:Nat):cutL r none (some (j:Int))=r.take j:=by
 unfold cutL YF;have e:¬((j:Int)<0):=by omega
 have e2:((j:Int)).toNat=j:=by omega
 simp only [e,if_false,e2,List.drop_zero,Nat.sub_zero]
 by_cases h:j<=r.length
 · rw [Nat.min_eq_left h]
 · rw [Nat.min_eq_right (by omega),List.take_of_length_le (Nat.le_refl _),List.take_of_length_le (by omega)]
theorem ZjL{α:Type}(r:List α){a b:Nat}(h1:a<=b)(h2:b<=r.length):cutL r (some (a:Int)) (some (b:Int))=(r.drop a).take (b-a):=by
 unfold cutL YF;have e:¬((a:Int)<0):=by omega
 have e2:((a:Int)).toNat=a:=by omega
 have f:¬((b:Int)<0):=by omega
 have f2:((b:Int)).toNat=b:=by omega
 simp only [e,f,if_false,e2,f2];rw [Nat.min_eq_left h2,Nat.min_eq_left (by omega)]
theorem Uq(m:Nat):Y3 0 1 m=(List.range m).map nD:=by
 unfold Y3;refine List.map_congr_left λk _ => ?_
 show D.int ((0:Int)+(k:Nat)*1)=D.int (k:Int);rw [show(0:Int)+(k:Nat)*1=(k:Int) by omega]
theorem ZiY{a:DL.Env->Option D}{lo hi:DL.Env->Option (Option Int)}{δ:DL.Env}{xs:List D}{l u:Option Int}(h1:a δ=some (.lst xs))(h2:lo δ=some l)(h3:hi δ=some u):eSl a lo hi δ=some (.lst (cutL xs l u)):=by
 unfold eSl;rw [h1,h2,h3];rfl
theorem Zhe{e:DL.Env->Option D}{δ:DL.Env}{i:Int}(h:e δ=some (.int i)):xP e δ=some (some i):=by
 unfold xP;rw [h]
theorem ZaJ{a:DL.Env->Option D}{δ:DL.Env}{W:List Nat}{hs:List Int}{Y:List (List Way)}(h:a δ=some (Z4 W hs Y)):XW "many" VB a eNil δ=JZ [Z4 W hs Y]:=by
 unfold XW;rw [h];rfl
section
variable{n m:Nat}{W:List Nat}{hs:List Int}{Y:List (List Way)}
def wOf(W:List Nat)(r:List Way)(k:Nat):Nat:=W.getD (r.getD k ([],0)).2 0
abbrev KE(W:List Nat)(hs:List Int)(Y:List (List Way))(n:Nat)(v2 v3 v4 v5 v6 v7 v8:Option D):DL.Env:=[some (Z4 W hs Y),some (nD n),v2,v3,v4,v5,v6,v7,v8]
noncomputable def c1:DL.Env->Option Out:=(sIf (xB (ZB 1 J0 [] (Zb (Za 0) eNil))) (Zy (eC .non)) sNext)
def c2:DL.Env->Option Out:=(Zq 2 (eCB maxQD (Zb (ZM Yj "weights" (Za 0)) eNil)))
def c3t:DL.Env->Option Bool:=(xB (eOp eqD (eOp ixD (ZM Yj "weights" (Za 1)) (Za 0)) (Za 2)))
noncomputable def c3:DL.Env->Option Out:=(Zq 3 (ZF (Z7 (Zb (XW "many" VB (Za 0) eNil) eNil)) (Zw 0) c3t (Za 0) 1 [0,2]))
noncomputable def c4t:DL.Env->Option Bool:=(xB (V1 (ZB 2 U2 [] (Zb (Za 1) (Zb (Za 0) eNil)))))
noncomputable def c4:DL.Env->Option Out:=(Zq 4 (eOp ixD (ZF (ZH (Za 3)) (Zw 0) c4t (Za 0) 1 [0]) (eC (.int 0))))
noncomputable def c5:DL.Env->Option Out:=(Zq 5 (ZB 2 U2 [] (Zb (Za 0) (Zb (Za 4) eNil))))
def c6t:DL.Env->Option Bool:=(xB (eOp neD (Za 0) (Za 1)))
def c6:DL.Env->Option Out:=(Zq 6 (ZF (Z7 (Zb (eCB lenD (Zb (eOp ixD (ZM Y6 "ways" (Za 0)) (Za 4)) eNil)) eNil)) (Zw 0) c6t (Za 0) 1 [5]))
def c7:DL.Env->Option Out:=(Zq 7 (eCB UZ (Zb (eOp XJ (eSl (Za 6) xNoP (xP (eOp subD (Za 1) (eC (.int 1))))) (Yc (Zb (Za 5) eNil))) eNil)))
def c8w:DL.Env->Option D:=(eOp ixD (ZM Yj "weights" (Za 1)) (eOp ixD (eOp ixD (eOp ixD (ZM Y6 "ways" (Za 1)) (Za 2)) (Za 0)) (eC (.int 1))))
noncomputable def c8:DL.Env->Option Out:=(Zq 8 (ZB 2 J4 [] (Zb (ZF (ZH (Za 7)) (Zw 0) (λ_=>some true) c8w 1 [0,4]) (Zb (Za 1) eNil))))
def c9:DL.Env->Option Out:=(Zy (Yi (Zb (Za 4) (Zb (eSl (Za 7) (xP (eOp ixD (Za 8) (eC (.int 0)))) (xP (eOp ixD (Za 8) (eC (.int 1))))) eNil))))
theorem ZbL:f_QV=Zf c1 (Zf c2 (Zf c3 (Zf c4 (Zf c5 (Zf c6 (Zf c7 (Zf c8 c9))))))):=rfl
theorem ZcC{M:Nat}(e1:maxQD [WD W]=some (nD M))(e2:minQD [WD W]=some (nD M)):X0 [Z4 W hs Y,nD n]=some .non:=by
 refine YE (δ:=KE W hs Y n none none none none none none none) rfl ?_;rw [ZbL];exact U0 ((XM (ZN ((Ye (n:=1) (Zi rfl nil_of) rfl).trans ((Zdd e1 e2).trans (by rw [decide_eq_true rfl]))))).trans (Yn rfl))
theorem Zie(h:Ok n m W hs Y){k:Nat}(hk:k<m){M:Nat}(hM:W.getD k 0=M)(hx:∀w∈W,w<=M)(h0:1<=M):n<=(Y.getD k []).length:=by
 have hb:=h.br k hk;rw [hM]at hb
 have:∀r:List Way,(∀p∈r,p.2<m)->(r.map λp=>W.getD p.2 0).sum<=r.length*M:=by
  intro r
  induction r with
  |nil=>intro _;exact Nat.zero_le _
  |cons p r ih=>
   intro hr;rw [List.map_cons,List.sum_cons,List.length_cons,Nat.succ_mul];have h1:=ih λq hq=>hr q (List.mem_cons_of_mem _ hq)
   have h2:=hx _ (h.wt (hr p List.mem_cons_self)).2;omega
 have h2:=this _ (h.tg _ (h.row hk).2);exact Nat.le_of_mul_le_mul_right (Nat.le_trans hb h2) h0
theorem ZbM{M:Nat}:(heavy m W M).length<=m:=by
 have:=List.length_filter_le (λk=>decide (W.getD k 0=M)) (List.range m);rw [List.length_range]at this;exact this
structure Pick(n m:Nat)(W:List Nat)(Y:List (List Way))(M place:Nat)(picks:List Nat):Prop where
 pm:place<m
 pw:W.getD place 0=M
 ex:∃(ks:List Nat) (a b j:Nat),picks=(ks.drop a).take (b-a)/\ks.length=n/\ks.Pairwise (· < ·)/\j∈ks/\lesser W M (Y.getD place [])=some j/\(∀k∈ks,k<(Y.getD place []).length)/\a<b/\b<=n/\((ks.map (wOf W (Y.getD place []))).take b).sum % n=((ks.map (wOf W (Y.getD place []))).take a).sum % n
theorem ZcD(h:Ok n m W hs Y){M L:Nat}(e1:maxQD [WD W]=some (nD M))(e2:minQD [WD W]=some (nD L))(hM:M∈W)(hx:∀w∈W,w<=M)(hL:L∈W)(hd:L≠M) :
 ∃place picks,X0 [Z4 W hs Y,nD n]=some (.tup [nD place,AD picks])/\Pick n m W Y M place picks:=by
 have hm5:=h.m5;have hn1:=h.n1;have hn6:=h.n6;have hM1:=(h.w1 M hM).1
 obtain⟨place,rest,hc⟩:∃p r,UO m W Y M=p::r:=by
  cases hz:UO m W Y M with
  |nil=>exact absurd hz (Zgc h hM hx hL hd)
  |cons p r=>exact⟨p,r,rfl⟩
 obtain⟨hp,hpw,j,hj⟩:=Zfu (m:=m) (W:=W) (Y:=Y) (k:=place) (M:=M) (by rw [hc];exact List.mem_cons_self);have hrow:=(h.row hp).2;have hrl:=h.rl _ hrow;obtain⟨pj,hpj,hlt⟩:=Zai hj;have hjl:j<(Y.getD place []).length:=(List.getElem?_eq_some_iff.mp hpj).1;have hns:=Zie h hp hpw hx hM1;obtain⟨ks,k1,k2,k3,k4,k5⟩:=ZdM hjl hrl hn1 hn6 hns;obtain⟨a,b,g1,g2,g3,g4⟩:=Zic hn1 (ks.map (wOf W (Y.getD place []))) (by rw [List.length_map];omega) (by rw [List.length_map];omega)
 rw [List.length_map,k2]at g3;refine⟨place,(ks.drop a).take (b-a),?_,⟨hp,hpw,ks,a,b,j,rfl,k2,k3,k4,hj,k5,g2,g3,g4⟩⟩;refine YE (δ:=KE W hs Y n none none none none none none none) rfl ?_;have t1:c1 (KE W hs Y n none none none none none none none)=some (.nx (KE W hs Y n none none none none none none none)):=(Yo (ZN ((Ye (n:=1) (Zi rfl nil_of) rfl).trans ((Zdd e1 e2).trans (by rw [decide_eq_false hd]))))).trans rfl
 have t2:c2 (KE W hs Y n none none none none none none none)=some (.nx (KE W hs Y n (some (nD M)) none none none none none none)):=ZK ((ZI (Zi (x:=WD W) rfl nil_of)).trans e1)
 have t3:c3 (KE W hs Y n (some (nD M)) none none none none none none)=some (.nx (KE W hs Y n (some (nD M)) (some (AD (heavy m W M))) none none none none none)):=by
  refine ZK (Yx (δ0:=[none,some (Z4 W hs Y),some (nD M)]) (xs:=(List.range m).map nD) ?_ rfl (QD (τ:=c3t) (ε:=Za 0) nD (λk=>decide (W.getD k 0=M)) (List.range m) λk hk => ?_) ?_)
  · refine(Vd (j:=(m:Int)) (Zi ((ZaJ rfl).trans (Zch h)) nil_of) (by omega) (by omega)).trans ?_
    rw [Int.toNat_natCast,Uq]
  · exact⟨[some (nD k),some (Z4 W hs Y),some (nD M)],rfl,ZN ((Zh ((Zh (x:=WD W) (y:=nD k) rfl rfl).trans (Xg h (List.mem_range.mp hk))) rfl).trans (UN _ _)),rfl⟩
  · have:=ZbM (m:=m) (W:=W) (M:=M)
    rw [List.length_map];show(heavy m W M).length<=1000000;omega
 have hvl:∀k∈heavy m W M,k<m:=λk hk=>List.mem_range.mp (List.mem_filter.mp hk).1
 have t4:c4 (KE W hs Y n (some (nD M)) (some (AD (heavy m W M))) none none none none none)=some (.nx (KE W hs Y n (some (nD M)) (some (AD (heavy m W M))) (some (nD place)) none none none none)):=by
  refine ZK ((Zh (Yx (δ0:=[none,some (Z4 W hs Y)]) (xs:=(heavy m W M).map nD) rfl rfl (QD (τ:=c4t) (ε:=Za 0) nD (λk=>(lesser W (W.getD k 0) (Y.getD k [])).isSome) (heavy m W M) λk hk => ?_) ?_) rfl).trans ?_)
  · refine⟨[some (nD k),some (Z4 W hs Y)],rfl,ZN ?_,rfl⟩
    have e:=(Ye (n:=2) (m:=U2) (α:=Zb (Za 1) (Zb (Za 0) eNil)) (δ:=[some (nD k),some (Z4 W hs Y)]) (Zi rfl (Zi rfl nil_of)) rfl).trans (ZbK h (hvl k hk));unfold V1;rw [e];cases lesser W (W.getD k 0) (Y.getD k [])<;>rfl
  · rw [List.length_map]
    have i1:=List.length_filter_le (λk=>(lesser W (W.getD k 0) (Y.getD k [])).isSome) (heavy m W M);have i2:=ZbM (m:=m) (W:=W) (M:=M);omega
  · show ixD (AD (UO m W Y M)) (.int 0)=_
    rw [hc];exact Vf (xs:=(place::rest).map nD) (a:=0) rfl
 have t5:c5 (KE W hs Y n (some (nD M)) (some (AD (heavy m W M))) (some (nD place)) none none none none)=some (.nx (KE W hs Y n (some (nD M)) (some (AD (heavy m W M))) (some (nD place)) (some (nD j)) none none none)):=
  ZK ((Ye (n:=2) (Zi rfl (Zi rfl nil_of)) rfl).trans ((ZbK h hp).trans (by rw [hpw,hj];rfl)))
 have t6:c6 (KE W hs Y n (some (nD M)) (some (AD (heavy m W M))) (some (nD place)) (some (nD j)) none none none)=some (.nx (KE W hs Y n (some (nD M)) (some (AD (heavy m W M))) (some (nD place)) (some (nD j)) (some (AD (others j (Y.getD place []).length))) none none)):=by
  refine ZK (Yx (δ0:=[none,some (nD j)]) (xs:=(List.range (Y.getD place []).length).map nD) ?_ rfl (QD (τ:=c6t) (ε:=Za 0) nD (λk => !decide (k=j)) (List.range (Y.getD place []).length) λk hk => ?_) ?_)
  · refine(Vd (j:=((Y.getD place []).length:Int)) (Zi ((ZI (Zi ((Zh (x:=YD Y) (y:=nD place) rfl rfl).trans (UL h hp)) nil_of)).trans ?_) nil_of) (by omega) (by omega)).trans ?_
    · show some (D.int (((Y.getD place []).map wyD).length:Int))=_
      rw [List.length_map]
    · rw [Int.toNat_natCast,Uq]
  · exact⟨[some (nD k),some (nD j)],rfl,ZN ((Zh rfl rfl).trans (X2 _ _)),rfl⟩
  · rw [List.length_map]
    have:=(ZaV j (Y.getD place []).length hjl).2.2;show(others j (Y.getD place []).length).length<=1000000;omega
 have t7:c7 (KE W hs Y n (some (nD M)) (some (AD (heavy m W M))) (some (nD place)) (some (nD j)) (some (AD (others j (Y.getD place []).length))) none none)=some (.nx (KE W hs Y n (some (nD M)) (some (AD (heavy m W M))) (some (nD place)) (some (nD j)) (some (AD (others j (Y.getD place []).length))) (some (AD ks)) none)):=by
  refine ZK ((ZI (Zi (x:=.lst (((others j (Y.getD place []).length).take (n-1)).map nD++[nD j])) ?_ nil_of)).trans k1)
  have es:eSl (Za 6) xNoP (xP (eOp subD (Za 1) (eC (.int 1)))) (KE W hs Y n (some (nD M)) (some (AD (heavy m W M))) (some (nD place)) (some (nD j)) (some (AD (others j (Y.getD place []).length))) none none)=some (.lst (((others j (Y.getD place []).length).take (n-1)).map nD)):=by
   refine(ZiY (xs:=(others j (Y.getD place []).length).map nD) (l:=none) (u:=some ((n-1:Nat):Int)) rfl rfl (Zhe ?_)).trans ?_
   · refine(Zh (x:=nD n) (y:=.int 1) rfl rfl).trans ?_
     show some (D.int ((n:Int)-1))=_;rw [show((n:Int)-1)=((n-1:Nat):Int) by omega]
   · rw [Zid,List.map_take]
  refine(Zh es (XN (ds:=[nD j]) (Zi rfl nil_of) (by show 1<=1000;decide))).trans (ZhY ?_);rw [List.length_map,List.length_take];show min (n-1) _+1<=100000;omega
 have t8:c8 (KE W hs Y n (some (nD M)) (some (AD (heavy m W M))) (some (nD place)) (some (nD j)) (some (AD (others j (Y.getD place []).length))) (some (AD ks)) none)=some (.nx (KE W hs Y n (some (nD M)) (some (AD (heavy m W M))) (some (nD place)) (some (nD j)) (some (AD (others j (Y.getD place []).length))) (some (AD ks)) (some (.tup [nD a,nD b])))):=by
  refine ZK ((Ye (n:=2) (ds:=[AD (ks.map (wOf W (Y.getD place []))),nD n]) (Zi ?_ (Zi rfl nil_of)) rfl).trans g1);refine Yx (δ0:=[none,some (Z4 W hs Y),some (nD place)]) (xs:=ks.map nD) rfl rfl ?_ ?_
  · rw [List.map_map]
    refine YW (ε:=c8w) nD _ ks λk hk=>⟨[some (nD k),some (Z4 W hs Y),some (nD place)],rfl,?_⟩
    have hk2:=k5 k hk
    have hg:(Y.getD place [])[k]? = some ((Y.getD place []).getD k ([],0)):=by
     rw [List.getD_eq_getElem?_getD (l:=Y.getD place []),List.getElem?_eq_getElem hk2];rfl
    have ei:ixD (ZA (Y.getD place [])) (nD k)=some (wyD ((Y.getD place []).getD k ([],0))):=ix_tup (by rw [List.getElem?_map,hg];rfl);exact(Zh (x:=WD W) (y:=nD ((Y.getD place []).getD k ([],0)).2) rfl ((Zh ((Zh ((Zh (x:=YD Y) (y:=nD place) rfl rfl).trans (UL h hp)) rfl).trans ei) rfl).trans (Up _))).trans (Xg h (h.tg _ hrow _ (List.mem_of_getElem? hg)))
  · rw [List.length_map,List.length_map]
    omega
 have t9:c9 (KE W hs Y n (some (nD M)) (some (AD (heavy m W M))) (some (nD place)) (some (nD j)) (some (AD (others j (Y.getD place []).length))) (some (AD ks)) (some (.tup [nD a,nD b])))=some (.rt (.tup [nD place,AD ((ks.drop a).take (b-a))])):=by
  refine Yn (Vz (Zi rfl (Zi ((ZiY (xs:=ks.map nD) (l:=some (a:Int)) (u:=some (b:Int)) rfl (Zhe ((Zh (x:=.tup [nD a,nD b]) (y:=.int 0) rfl rfl).trans rfl)) (Zhe ((Zh (x:=.tup [nD a,nD b]) (y:=.int 1) rfl rfl).trans rfl))).trans ?_) nil_of)) (by show 2<=1000;decide));rw [ZjL _ (by omega) (by rw [List.length_map];omega),<-List.map_drop,<-List.map_take]
 rw [ZbL,Zu t1,Zu t2,Zu t3,Zu t4,Zu t5,Zu t6,Zu t7,Zu t8];exact t9
end
end K39
namespace K39
open DL L2
theorem QF(a b:Nat):Z6 (λi j=>decide (i<j)) (nD a) (nD b)=some (.bl (decide (a<b))):=by
 show some (D.bl (decide ((a:Int)<(b:Int))))=_
 by_cases h:a<b
 · rw [decide_eq_true h,decide_eq_true (by omega)]
 · rw [decide_eq_false h,decide_eq_false (by omega)]
theorem ZjM(a b:Nat):Z6 (λi j=>decide (i<=j)) (nD a) (nD b)=some (.bl (decide (a<=b))):=by
 show some (D.bl (decide ((a:Int)<=(b:Int))))=_
 by_cases h:a<=b
 · rw [decide_eq_true h,decide_eq_true (by omega)]
 · rw [decide_eq_false h,decide_eq_false (by omega)]
section
variable{n m:Nat}{W:List Nat}{hs:List Int}{Y:List (List Way)}
theorem ZeI(f:Nat->Nat):∀(l S:List Nat),l.Nodup->(∀x∈l,x∈S)->(l.map f).sum<=(S.map f).sum
 | [],_,_,_=>Nat.zero_le _
 |x::l,S,hn,hs=>by
  have hx:=hs x List.mem_cons_self;rw [List.nodup_cons]at hn;have ih:=ZeI f l (S.erase x) hn.2 λy hy=>(List.mem_erase_of_ne (λ(z:y=x)=>hn.1 (by rw [<-z];exact hy))).mpr (hs y (List.mem_cons_of_mem _ hy))
  have hp:=((List.perm_cons_erase hx).map f).sum_nat;rw [List.map_cons,List.sum_cons]at hp ⊢;omega
theorem ZgQ{f:Nat->Nat}{M j:Nat}:∀ks:List Nat,(∀k∈ks,f k<=M)->j∈ks->f j<M->(ks.map f).sum<ks.length*M
 |k::ks,h,hj,hl=>by
  rw [List.map_cons,List.sum_cons,List.length_cons,Nat.succ_mul];have h0:=h k List.mem_cons_self;rcases List.mem_cons.mp hj with rfl|z
  · have : ∀ l : List Nat, (∀ x ∈ l, f x <= M) -> (l.map f).sum <= l.length * M := by
     intro l
     induction l with
     |nil=>intro _;exact Nat.zero_le _
     |cons x l ih=>
      intro hx;rw [List.map_cons,List.sum_cons,List.length_cons,Nat.succ_mul];have h1:=ih λy hy=>hx y (List.mem_cons_of_mem _ hy)
      have h2:=hx x List.mem_cons_self;omega
    have:=this ks λx hx=>h x (List.mem_cons_of_mem _ hx)
    omega
  · have:=ZgQ ks (λx hx=>h x (List.mem_cons_of_mem _ hx)) z hl
    omega
theorem Zif(W:List Nat)(r:List Way):Z2 W r=((List.range r.length).map (wOf W r)).sum:=by
 unfold Z2
 congr 1
 apply List.ext_getElem
 · simp
 · intro i h1 h2
   rw [List.getElem_map,List.getElem_map,List.getElem_range];unfold wOf;rw [List.getD_eq_getElem?_getD (l:=r),List.getElem?_eq_getElem (by simpa using h1)];rfl
structure Good(n M:Nat)(W:List Nat)(r:List Way)(picks:List Nat):Prop where
 inc:picks.Pairwise (· < ·)
 lt:∀k∈picks,k<r.length
 len:picks.length<r.length
 even:(picks.map (wOf W r)).sum % n=0
 pos:1<=(picks.map (wOf W r)).sum
 less:(picks.map (wOf W r)).sum<n*M
theorem Zig(h:Ok n m W hs Y){M place:Nat}{picks:List Nat}(hx:∀w∈W,w<=M)(P:Pick n m W Y M place picks):Good n M W (Y.getD place []) picks:=by
 obtain⟨hp,hpw,ks,a,b,j,rfl,k2,k3,k4,hj,k5,g2,g3,g4⟩:=P;have hrow:=(h.row hp).2
 have wle:∀k<(Y.getD place []).length,wOf W (Y.getD place []) k<=M/\1<=wOf W (Y.getD place []) k:=λk hk=>by
  have hg:(Y.getD place [])[k]? = some ((Y.getD place []).getD k ([],0)):=by
   rw [List.getD_eq_getElem?_getD (l:=Y.getD place []),List.getElem?_eq_getElem hk];rfl
  have hm:=(h.wt (h.tg _ hrow _ (List.mem_of_getElem? hg))).2;exact⟨hx _ hm,(h.w1 _ hm).1⟩
 have hwj:wOf W (Y.getD place []) j<M:=by
  obtain⟨pj,hpj,hlt⟩:=Zai hj;unfold wOf;rw [List.getD_eq_getElem?_getD (l:=Y.getD place []),hpj];exact hlt
 have sub:∀k∈(ks.drop a).take (b-a),k∈ks:=λk hk=>List.mem_of_mem_drop (List.mem_of_mem_take hk)
 have hall:=ZgQ ks (λk hk=>(wle k (k5 k hk)).1) k4 hwj;rw [k2]at hall
 have hsplit:((ks.map (wOf W (Y.getD place []))).take b).sum=((ks.map (wOf W (Y.getD place []))).take a).sum+(((ks.drop a).take (b-a)).map (wOf W (Y.getD place []))).sum:=by
  rw [show b=a+(b-a) by omega,List.take_add,List.sum_append,Nat.add_sub_cancel_left,List.map_take,List.map_drop]
 have hle:((ks.map (wOf W (Y.getD place []))).take b).sum<=(ks.map (wOf W (Y.getD place []))).sum:=by
  conv=>rhs;rw [<-List.take_append_drop b (ks.map (wOf W (Y.getD place []))),List.sum_append]
  exact Nat.le_add_right _ _
 have hless:(((ks.drop a).take (b-a)).map (wOf W (Y.getD place []))).sum<n*M:=by omega
 have hpl:((ks.drop a).take (b-a)).length=b-a:=by
  rw [List.length_take,List.length_drop,k2];omega
 have hnd:ks.Nodup:=k3.imp λz e=>by omega
 have hkl:ks.length<=(Y.getD place []).length:=by
  have:=UM ks (List.range (Y.getD place []).length) hnd λk hk=>List.mem_range.mpr (k5 k hk)
  rwa [List.length_range]at this
 refine⟨(k3.drop).take,λk hk=>k5 k (sub k hk),?_,?_,?_,hless⟩
 · rw [hpl]
   refine Nat.lt_of_le_of_ne (by omega) λe => ?_
   have ha:a=0:=by omega
   have hb:b=n:=by omega
   subst ha;have hbr:=h.br place hp;rw [hpw]at hbr;have hbe:Z2 W (Y.getD place [])=((List.range (Y.getD place []).length).map (wOf W (Y.getD place []))).sum:=Zif W _
   have hsub:=ZeI (wOf W (Y.getD place [])) (List.range (Y.getD place []).length) ks List.nodup_range λk hk=>by
    by_cases hin:k∈ks
    · exact hin
    · exfalso
      have:=UM (k::ks) (List.range (Y.getD place []).length) (List.nodup_cons.mpr ⟨hin,hnd⟩) λx hx=>by
       rcases List.mem_cons.mp hx with rfl|z
       · exact hk
       · exact List.mem_range.mpr (k5 x z)
      rw [List.length_range,List.length_cons]at this;omega
   have hbr:n*M<=Z2 W (Y.getD place []):=hbr;omega
 · have:=congrArg (λz=>z) g4
   have h1:(((ks.map (wOf W (Y.getD place []))).take a).sum+(((ks.drop a).take (b-a)).map (wOf W (Y.getD place []))).sum) % n=((ks.map (wOf W (Y.getD place []))).take a).sum % n:=by rw [<-hsplit];exact g4
   have h2:=Nat.sub_mod_eq_zero_of_mod_eq h1
   rwa [Nat.add_sub_cancel_left]at h2
 · cases hz:(ks.drop a).take (b-a)with
   |nil=>rw [hz]at hpl;simp at hpl;omega
   |cons x l=>
    rw [List.map_cons,List.sum_cons];have:=(wle x (k5 x (sub x (by rw [hz];exact List.mem_cons_self)))).2;omega
end
end K39
namespace K39
open DL L2
theorem Zci(k:Nat):ixD (.str [97,98,99,100]) (nD (k % 4))=some (.str [97+k % 4]):=by
 have h:k % 4<4:=Nat.mod_lt _ (by decide);rcases(show k % 4=0\/k % 4=1\/k % 4=2\/k % 4=3 by omega)with e|e|e|e
 · rw [e];exact ix_str (a:=0) rfl (by decide)
 · rw [e];exact ix_str (a:=1) rfl (by decide)
 · rw [e];exact ix_str (a:=2) rfl (by decide)
 · rw [e];exact ix_str (a:=3) rfl (by decide)
def blk(k:Nat):List Nat:=[97+k / 16 % 4,97+k / 4 % 4,97+k % 4]
theorem ZjN(k:Nat):(blk k).length=3/\Xx (blk k):=⟨rfl,by
 intro c hc;simp only [blk,List.mem_cons,List.mem_nil_iff,or_false]at hc;omega⟩
theorem Zih{a b:Nat}(ha:a<64)(hb:b<64)(h:blk a=blk b):a=b:=by
 unfold blk at h;injection h with h1 h
 injection h with h2 h
 injection h with h3 h
 omega
def bs(k:Nat):Nat:=k+1-k % 2*2
def Num(r:List Nat)(k x:Nat):Prop:=x=19+k\/(x=k / 2/\bs k<r.length/\r.getD (bs k) 0≠r.getD k 0)
theorem Zii{r:List Nat}{i j x y:Nat}(hl:r.length<=30)(hi:i<j)(hj:j<r.length)(h1:Num r i x)(h2:Num r j y):(blk x,r.getD i 0)≠(blk y,r.getD j 0):=λe=>by
 injection e with e1 e2
 have hx:x<64:=by rcases h1 with z|⟨z,_⟩<;>omega
 have hy:y<64:=by rcases h2 with z|⟨z,_⟩<;>omega
 have e3:=Zih hx hy e1;rcases h1 with z|⟨z,z1,z2⟩
 · rcases h2 with w|⟨w,_⟩<;>omega
 · rcases h2 with w|⟨w,_⟩
   · omega
   · have:bs i=j:=by unfold bs;omega
     rw [this]at z2;exact z2 e2.symm
theorem Zaw{a b:Nat}(h:1<=b)(hb:b<=1000):fdivW (nD a) (nD b)=some (nD (a / b)):=by
 rw [Zc8 (by omega) (ZiU (by rw [Int.natAbs_natCast];exact Nat.le_trans hb (by decide +kernel))),Int.fdiv_eq_ediv_of_nonneg _ (Int.natCast_nonneg b),<-Int.natCast_ediv]
theorem Zgd(k:Nat):J8 [nD k]=some (.str (blk k)):=by
 have e1:=Zci (k / 16);have e2:=Zci (k / 4);have e3:=Zci k;refine YE (δ:=[some (nD k)]) rfl (Yn ?_);have d1:eOp modW (eOp fdivW (Za 0) (eC (.int 16))) (eC (.int 4)) [some (nD k)]=some (nD (k / 16 % 4)):=(Zh (x:=nD (k / 16)) (y:=nD 4) ((Zh (x:=nD k) (y:=nD 16) rfl rfl).trans (Zaw (by decide) (by decide))) rfl).trans (U4 (by decide));have d2:eOp modW (eOp fdivW (Za 0) (eC (.int 4))) (eC (.int 4)) [some (nD k)]=some (nD (k / 4 % 4)):=(Zh (x:=nD (k / 4)) (y:=nD 4) ((Zh (x:=nD k) (y:=nD 4) rfl rfl).trans (Zaw (by decide) (by decide))) rfl).trans (U4 (by decide))
 have d3:eOp modW (Za 0) (eC (.int 4)) [some (nD k)]=some (nD (k % 4)):=(Zh (x:=nD k) (y:=nD 4) rfl rfl).trans (U4 (by decide));exact(Zh ((Zh ((Zh rfl d1).trans e1) ((Zh rfl d2).trans e2)).trans (add_str (by show 1+1<=100000;decide))) ((Zh rfl d3).trans e3)).trans (add_str (by show 2+1<=100000;decide))
noncomputable def nB3:DL.Env->Option Out:=(sIf (Xe (xB (eOp eqD (Za 1) (eC (.int 1)))) (Xe (xB (eOp (Z6 λi j=>decide (i<j)) (Za 5) (eCB lenD (Zb (Za 0) eNil)))) (xB (eOp neD (eOp ixD (Za 0) (Za 5)) (eOp ixD (Za 0) (Za 3)))))) (Zq 4 (eOp fdivW (Za 3) (eC (.int 2)))) sNext)
noncomputable def nB:DL.Env->Option Out:=(Zf (Zq 4 (eOp addX (eC (.int 19)) (Za 3))) (Zf (Zq 5 (eOp subD (eOp addX (Za 3) (eC (.int 1))) (eOp mulX (eOp modW (Za 3) (eC (.int 2))) (eC (.int 2))))) (Zf nB3 (YA 2 (Yi (Zb (ZB 1 J8 [] (Zb (Za 4) eNil)) (Zb (eOp ixD (Za 0) (Za 3)) eNil)))))))
theorem Zge:f_QF=Zf (Zq 2 (Yc eNil)) (Zf (Yv (Z7 (Zb (eCB lenD (Zb (Za 0) eNil)) eNil)) (Zw 3) nB) (Zy (eCB ZZ (Zb (Za 2) eNil)))):=rfl
abbrev NE(r:List Nat)(tw:Int)(ws:List Way)(v3 v4 v5:Option D):DL.Env:=[some (AD r),some (.int tw),some (.lst (ws.map wyD)),v3,v4,v5]
theorem Zkv{r:List Nat}{k:Nat}(hk:k<r.length):ixD (AD r) (nD k)=some (nD (r.getD k 0)):=by
 have hg:r[k]? = some (r.getD k 0):=by
  rw [List.getD_eq_getElem?_getD,List.getElem?_eq_getElem hk];rfl
 exact Vf (by rw [List.getElem?_map,hg];rfl)
theorem ZlB(r:List Nat)(tw:Int)(ws:List Way)(k:Nat)(hk:k<r.length)(hl:r.length<=100)(hw:ws.length<=1000)(v4 v5:Option D):∃(x:Nat) (w4 w5:Option D),nB (NE r tw ws (some (nD k)) v4 v5)=some (.nx (NE r tw (ws++[(blk x,r.getD k 0)]) (some (nD k)) w4 w5))/\Num r k x:=by
 have hm:k % 2<=1:=by omega
 have hbs:bs k+k % 2*2=k+1:=by show k+1-k % 2*2+k % 2*2=k+1;omega
 have t1:Zq 4 (eOp addX (eC (.int 19)) (Za 3)) (NE r tw ws (some (nD k)) v4 v5)=some (.nx (NE r tw ws (some (nD k)) (some (nD (19+k))) v5)):=by
  refine(ZK ((Zh (x:=nD 19) (y:=nD k) rfl rfl).trans (add_int _ _))).trans ?_;show some (Out.nx [_,_,_,_,some (D.int (((19:Nat):Int)+(k:Int))),_])=_;rw [show(((19:Nat):Int)+(k:Int))=((19+k:Nat):Int) by push_cast;rfl]
 have t2:Zq 5 (eOp subD (eOp addX (Za 3) (eC (.int 1))) (eOp mulX (eOp modW (Za 3) (eC (.int 2))) (eC (.int 2)))) (NE r tw ws (some (nD k)) (some (nD (19+k))) v5)=some (.nx (NE r tw ws (some (nD k)) (some (nD (19+k))) (some (nD (bs k))))):=by
  refine(ZK ((Zh ((Zh (x:=nD k) (y:=.int 1) rfl rfl).trans (add_int _ _)) ((Zh ((Zh (x:=nD k) (y:=nD 2) rfl rfl).trans (U4 (by decide))) rfl).trans (JW (by decide) (by decide)))).trans rfl)).trans ?_;show some (Out.nx [_,_,_,_,_,some (D.int ((k:Int)+1-((k % 2:Nat):Int)*2))])=_;rw [show((k:Int)+1-((k % 2:Nat):Int)*2)=((bs k:Nat):Int) by omega]
 have t3:∃x,Num r k x/\nB3 (NE r tw ws (some (nD k)) (some (nD (19+k))) (some (nD (bs k))))=some (.nx (NE r tw ws (some (nD k)) (some (nD x)) (some (nD (bs k))))):=by
  have c1:xB (eOp eqD (Za 1) (eC (.int 1))) (NE r tw ws (some (nD k)) (some (nD (19+k))) (some (nD (bs k))))=some (decide (tw=1)):=ZN ((Zh (x:=.int tw) (y:=.int 1) rfl rfl).trans (eqZ _ _))
  by_cases h1:tw=1
  · rw [decide_eq_true h1]at c1
    have c2:xB (eOp (Z6 λi j=>decide (i<j)) (Za 5) (eCB lenD (Zb (Za 0) eNil))) (NE r tw ws (some (nD k)) (some (nD (19+k))) (some (nD (bs k))))=some (decide (bs k<r.length)):=ZN ((Zh (x:=nD (bs k)) (y:=nD r.length) rfl ((ZI (Zi (x:=AD r) rfl nil_of)).trans (by show some (D.int ((r.map nD).length:Int))=_;rw [List.length_map]))).trans (QF _ _))
    by_cases h2:bs k<r.length
    · rw [decide_eq_true h2]at c2
      have c3:xB (eOp neD (eOp ixD (Za 0) (Za 5)) (eOp ixD (Za 0) (Za 3))) (NE r tw ws (some (nD k)) (some (nD (19+k))) (some (nD (bs k))))=some (!decide (r.getD (bs k) 0=r.getD k 0)):=ZN ((Zh ((Zh (x:=AD r) (y:=nD (bs k)) rfl rfl).trans (Zkv h2)) ((Zh (x:=AD r) (y:=nD k) rfl rfl).trans (Zkv hk))).trans (X2 _ _));cases hz : !decide (r.getD (bs k) 0=r.getD k 0)with
      |true=>
       rw [hz]at c3;exact⟨k / 2,.inr ⟨rfl,h2,by simpa using hz⟩,(XM (UJ c1 (UJ c2 c3))).trans (ZK ((Zh (x:=nD k) (y:=nD 2) rfl rfl).trans (Zaw (by decide) (by decide))))⟩
      |false=>
       rw [hz]at c3;exact⟨19+k,.inl rfl,(Yo (UJ c1 (UJ c2 c3))).trans rfl⟩
    · rw [decide_eq_false h2]at c2
      exact⟨19+k,.inl rfl,(Yo (UJ c1 (JP c2))).trans rfl⟩
  · rw [decide_eq_false h1]at c1
    exact⟨19+k,.inl rfl,(Yo (JP c1)).trans rfl⟩
 obtain⟨x,hx,t3⟩:=t3;have eb:=Zgd x;refine⟨x,some (nD x),some (nD (bs k)),?_,hx⟩;refine(Zu t1).trans ((Zu t2).trans ((Zu t3).trans ((V7 (xs:=ws.map wyD) (d:=wyD (blk x,r.getD k 0)) rfl (Vz (Zi ((Ye (n:=1) (Zi rfl nil_of) rfl).trans eb) (Zi ((Zh (x:=AD r) (y:=nD k) rfl rfl).trans (Zkv hk)) nil_of)) (by show 2<=1000;decide)) (by rw [List.length_map];omega)).trans ?_)));rw [show ws.map wyD++[wyD (blk x,r.getD k 0)]=(ws++[(blk x,r.getD k 0)]).map wyD by rw [List.map_append];rfl]
 rfl
theorem Zbk{len:Nat}{dn r:List Nat}{x:Nat}(e:dn++x::r=List.range len):x=dn.length/\dn.length<len:=by
 have h:(dn++x::r)[dn.length]? = (List.range len)[dn.length]? := by rw [e]
 rw [List.getElem?_append_right (Nat.le_refl _),Nat.sub_self]at h;have hl:=congrArg List.length e;rw [List.length_append,List.length_cons,List.length_range]at hl;rw [List.getElem?_range (by omega)]at h;exact⟨Option.some.inj h,by omega⟩
theorem Zfv{r:List Nat}{k:Nat}(hk:k<r.length):r.take (k+1)=r.take k++[r.getD k 0]:=by
 rw [List.take_add_one,List.getElem?_eq_getElem hk,List.getD_eq_getElem?_getD,List.getElem?_eq_getElem hk];rfl
theorem Zgf(r:List Nat)(tw:Int)(hl:r.length<=30):∃ws:List Way,Zj2 [AD r,.int tw]=some (ZA ws)/\ws.map Prod.snd=r/\(∀p∈ws,p.1.length=3/\Xx p.1)/\ws.Nodup:=by
 obtain⟨δ',h1,ws,w3,w4,w5,rfl,g2,g3⟩:=QC (γ:=Zw 3) (φ:=nB) nD (λdn δ=>∃(ws:List Way) (w3 w4 w5:Option D),δ=NE r tw ws w3 w4 w5/\ws.map Prod.snd=r.take dn.length/\∀i p,ws[i]? = some p->∃x,p=(blk x,r.getD i 0)/\Num r i x) (List.range r.length) (by
  rintro dn x rest δ e ⟨ws,w3,w4,w5,rfl,g2,g3⟩
  obtain⟨rfl,hk⟩:=Zbk e
  have hwl:ws.length=dn.length:=by
   have:=congrArg List.length g2;rw [List.length_map,List.length_take]at this;omega
  obtain⟨b,x4,x5,g4,g5⟩:=ZlB r tw ws dn.length hk (by omega) (by omega) w4 w5;refine⟨NE r tw ws (some (nD dn.length)) w4 w5,rfl,_,g4,_,_,_,_,rfl,?_,?_⟩
  · rw [List.map_append,g2,List.length_append,List.length_singleton,Zfv hk]
    rfl
  · intro i p hp
    by_cases hi:i<ws.length
    · rw [List.getElem?_append_left hi]at hp
      exact g3 i p hp
    · rw [List.getElem?_append_right (by omega)]at hp
      obtain⟨hz,e2⟩:=List.getElem?_eq_some_iff.mp hp;rw [List.length_singleton]at hz;have:i=dn.length:=by omega
      subst this;refine⟨b,?_,g5⟩;rw [<-e2,List.getElem_singleton]) (List.range r.length) [] (NE r tw [] none none none) rfl ⟨[],none,none,none,rfl,rfl,λi p hp=>by cases hp⟩
 rw [List.length_range,List.take_of_length_le (Nat.le_refl _)]at g2;refine⟨ws,YE (δ:=[some (AD r),some (.int tw),none,none,none,none]) rfl ?_,g2,λp hp => ?_,?_⟩
 · rw [Zge,Zu (δ':=NE r tw [] none none none) (ZK (XN (ds:=[]) rfl (by decide)))]
   refine(Zu (Ve ((Vd (j:=(r.length:Int)) (Zi ((ZI (Zi (x:=AD r) rfl nil_of)).trans (by show some (D.int ((r.map nD).length:Int))=_;rw [List.length_map])) nil_of) (by omega) (by omega)).trans (by rw [Int.toNat_natCast,Uq])) h1)).trans (Yn ((ZI (Zi (x:=.lst (ws.map wyD)) rfl nil_of)).trans rfl))
 · obtain⟨i,hi⟩:=List.mem_iff_getElem?.mp hp
   obtain⟨x,rfl,_⟩:=g3 i p hi;exact ZjN x
 · have hwl:ws.length=r.length:=by rw [<-g2,List.length_map]
   refine List.pairwise_iff_getElem.mpr λi j hi hj hij => ?_
   obtain⟨x,ex,nx⟩:=g3 i _ (List.getElem?_eq_getElem hi);obtain⟨y,ey,ny⟩:=g3 j _ (List.getElem?_eq_getElem hj);rw [ex,ey];exact Zii hl hij (by omega) nx ny
end K39
namespace K39
open DL L2
theorem scal_of{ε:DL.Env->Option D}{δ:DL.Env}{d:D}(h:ε δ=some d)(hs:ZE d=true):Vn ε δ=some d:=by
 unfold Vn;rw [h];exact if_pos hs
theorem ZeJ{i:Nat}{κ ε:DL.Env->Option D}{δ:DL.Env}{xs r:List D}{j:Nat}{d:D}(hv:Za i δ=some (.lst xs))(hk:κ δ=some (.int (j:Int)))(he:ε δ=some d)(hs:ZE d=true)(hr:xs[j]? = some (.lst r))(hl:r.length<=1000):Vx i κ ε δ=some (.nx (δ.set i (some (.lst (xs.set j (.lst (r++[d]))))))):=by
 have hj:j<xs.length:=(List.getElem?_eq_some_iff.mp hr).1;unfold Vx;rw [scal_of he hs,hv,hk];dsimp only;rw [ZeF hj];dsimp only;rw [hr];exact if_pos (by rw [PySem.sizeLine_eq];omega)
theorem Zij{ε:DL.Env->Option D}{δ:DL.Env}{xs:List D}{rs:List (List D)}(h:ε δ=some (.lst xs))(hr:UH xs=some rs):Qt ε δ=some (.lst xs):=by
 unfold Qt;rw [h];dsimp only;rw [hr]
theorem ZjO{ψ:DL.Env->Option Out}{δ:DL.Env}{d:D}(h:ψ δ=some (.rt d)):Qv ψ δ=some (.rt d):=by
 unfold Qv;rw [h]
theorem ZbN:∀acc:List (List Nat),UH (acc.map AD)=some (acc.map λr=>r.map nD)
 | []=>rfl
 |r::acc=>by
  show(if(r.map nD).all ZE=true then(match UH (acc.map AD)with|some rs=>some (r.map nD::rs)|none=>none)else none)=_;rw [if_pos (Zkt r),ZbN acc];rfl
structure Rw(m:Nat)(R:List (List Nat)):Prop where
 len:R.length=m
 lt:∀r∈R,∀t∈r,t<m
 ln:∀r∈R,r.length<=30
 st:∀k<m,(k+1) % m∈R.getD k []
def push(R:List (List Nat))(k t:Nat):List (List Nat):=R.set k (R.getD k []++[t])
theorem ZaK{R:List (List Nat)}{k t i:Nat}(hk:k<R.length):(push R k t).getD i []=if i=k then R.getD k []++[t]else R.getD i []:=by
 unfold push;rw [List.getD_eq_getElem?_getD]
 by_cases h:i=k
 · subst h
   rw [List.getElem?_set_self hk,if_pos rfl];rfl
 · rw [List.getElem?_set_ne (λz=>h z.symm),if_neg h,<-List.getD_eq_getElem?_getD]
theorem U5{R:List (List Nat)}{k:Nat}(hk:k<R.length):R[k]? = some (R.getD k [])/\R.getD k []∈R:=by
 rw [List.getD_eq_getElem?_getD,List.getElem?_eq_getElem hk];exact⟨rfl,List.getElem_mem hk⟩
theorem Rw.push{m k t:Nat}{R:List (List Nat)}(h:Rw m R)(hk:k<m)(ht:t<m)(hl:(R.getD k []).length<30):Rw m (push R k t):=by
 have hkl:k<R.length:=by rw [h.len];exact hk
 have hm:=(U5 hkl).2;refine⟨by unfold K39.push;rw [List.length_set];exact h.len,λr hr x hx => ?_,λr hr => ?_,λi hi => ?_⟩
 · rcases List.mem_or_eq_of_mem_set hr with z|z
   · exact h.lt r z x hx
   · subst z
     rcases List.mem_append.mp hx with z|z
     · exact h.lt _ hm x z
     · rw [List.mem_singleton.mp z];exact ht
 · rcases List.mem_or_eq_of_mem_set hr with z|z
   · exact h.ln r z
   · subst z
     rw [List.length_append,List.length_singleton];omega
 · rw [ZaK hkl]
   by_cases e:i=k
   · rw [if_pos e,<-e]
     exact List.mem_append_left _ (h.st i hi)
   · rw [if_neg e];exact h.st i hi
theorem ZgR{R:List (List Nat)}{k t:Nat}:(R.map AD).set k (.lst ((R.getD k []).map nD++[nD t]))=(push R k t).map AD:=by
 unfold push;rw [List.map_set]
 congr 1
 show _=D.lst ((R.getD k []++[t]).map nD);rw [List.map_append];rfl
theorem UP(i:Int){m:Nat}(h:1<=m):∃a:Nat,modW (.int i) (nD m)=some (nD a)/\a<m:=by
 obtain⟨h1,h2⟩:=ZhX (a:=i) (b:=(m:Int)) (by omega);refine⟨(i.fmod m).toNat,?_,by omega⟩;rw [Zcf (by omega)];show some (D.int (i.fmod m))=some (D.int (((i.fmod m).toNat:Nat):Int));rw [Int.toNat_of_nonneg h1]
theorem Zax(i:Int){b:Nat}(h:1<=b)(hb:b<=1000):∃j,fdivW (.int i) (nD b)=some (.int j):=⟨_,Zc8 (by omega) (ZiU (by rw [Int.natAbs_natCast];exact Nat.le_trans hb (by decide +kernel)))⟩
abbrev WE(ns:List Int)(n m:Nat)(v4 v5 v6 v7 v8 v9 v10:Option D):DL.Env:=[some (.lst (ns.map D.int)),some (nD 2),some (nD n),some (nD m),v4,v5,v6,v7,v8,v9,v10]
noncomputable def w2e:DL.Env->Option D:=(eOp addX (eC (.int 1)) (eOp modW (ZB 2 YQ [] (Zb (Za 1) (Zb (eOp addX (eOp addX (Za 2) (eC (.int 1))) (Za 0)) eNil))) (eC (.int 5))))
noncomputable def w2:DL.Env->Option Out:=(Zq 4 (ZF (Z7 (Zb (Za 3) eNil)) (Zw 0) (λ_=>some true) w2e 1 [0,1]))
noncomputable def w3e:DL.Env->Option D:=(eOp modW (eOp fdivW (ZB 2 YQ [] (Zb (Za 1) (Zb (eOp addX (eOp addX (Za 2) (eC (.int 1))) (Za 0)) eNil))) (eC (.int 5))) (eC (.int 4)))
noncomputable def w3:DL.Env->Option Out:=(Zq 5 (ZF (Z7 (Zb (Za 3) eNil)) (Zw 0) (λ_=>some true) w3e 1 [0,1]))
def w4e:DL.Env->Option D:=(Yc (Zb (eOp modW (eOp addX (Za 0) (eC (.int 1))) (Za 1)) eNil))
def w4:DL.Env->Option Out:=(Qs 6 (Qt (ZF (Z7 (Zb (Za 3) eNil)) (Zw 0) (λ_=>some true) w4e 1 [3])))
def w5a:DL.Env->Option Out:=(Zq 8 (eOp modW (eOp fdivW (eOp ixD (Za 0) (Za 7)) (eC (.int 7))) (Za 3)))
def w5b:DL.Env->Option Out:=(Zf (Xs 6 w5a) (sIf (xB (eOp (Z6 λi j=>decide (i<j)) (eCB lenD (Zb (eOp ixD (Za 6) (Za 8)) eNil)) (eC (.int 8)))) (Vx 6 (Za 8) (eOp modW (eOp ixD (Za 0) (Za 7)) (Za 3))) sNext))
def w5:DL.Env->Option Out:=(Yv (Z7 (Zb (eOp addX (Za 1) (eC (.int 6))) (Zb (eCB lenD (Zb (Za 0) eNil)) eNil))) (Zw 7) w5b)
noncomputable def w6a:DL.Env->Option Out:=(Zq 9 (eOp modW (eOp fdivW (ZB 2 YQ [] (Zb (Za 0) (Zb (eOp addX (eOp addX (Za 1) (eC (.int 1))) (Za 8)) eNil))) (eC (.int 20))) (Za 3)))
noncomputable def w6t:DL.Env->Option Bool:=(Xl (xB (ZB 4 J9 [] (Zb (Za 4) (Zb (Za 6) (Zb (Za 8) (Zb (Za 2) eNil)))))))
def w6c:DL.Env->Option Out:=(Zq 9 (eOp modW (eOp addX (Za 9) (eC (.int 1))) (Za 3)))
def w6w:DL.Env->Option Out:=(Zf (Vx 6 (Za 8) (Za 9)) (Xs 6 w6c))
noncomputable def w6b:DL.Env->Option Out:=(Zf (Xs 6 w6a) (Xm w6t w6w))
noncomputable def w6:DL.Env->Option Out:=(Yv (Z7 (Zb (Za 3) eNil)) (Zw 8) w6b)
noncomputable def w7b:DL.Env->Option Out:=(YA 10 (ZB 2 Zj2 [] (Zb (eOp ixD (Za 6) (Za 8)) (Zb (eOp modW (eOp fdivW (ZB 2 YQ [] (Zb (Za 0) (Zb (eC (.int 1)) eNil))) (eC (.int 2))) (eC (.int 2))) eNil))))
noncomputable def w7:DL.Env->Option Out:=(Zf (Zq 10 (Yc eNil)) (Zf (Yv (Z7 (Zb (Za 3) eNil)) (Zw 8) w7b) (Zy (Yi (Zb (eCB ZZ (Zb (Za 5) eNil)) (Zb (eCB ZZ (Zb (Za 4) eNil)) (Zb (eCB ZZ (Zb (Za 10) eNil)) eNil)))))))
theorem ZjP:f_QR=Zf (Zq 3 (eOp addX (eC (.int 1)) (eOp modW (ZB 2 YQ [] (Zb (Za 0) (Zb (Za 1) eNil))) (eC (.int 5))))) (Zf w2 (Zf w3 (Zf w4 (Zf w5 (Zf w6 (Qv w7)))))):=rfl
section
variable{ns:List Int}{n m:Nat}{W:List Nat}{hs:List Int}
theorem ZjQ(hm:1<=m)(hm5:m<=5){R:List (List Nat)}(hR:Rw m R)(h8:∀r∈R,r.length<=8){k:Nat}(hk:k<ns.length)(v8:Option D):∃R' w8,w5b (WE ns n m (some (.lst (W.map nD))) (some (.lst (hs.map D.int))) (some (PM R)) (some (nD k)) v8 none none)=some (.nx (WE ns n m (some (.lst (W.map nD))) (some (.lst (hs.map D.int))) (some (PM R')) (some (nD k)) w8 none none))/\Rw m R'/\∀r∈R',r.length<=8:=by
 have ek:∀v6 v8,eOp ixD (Za 0) (Za 7) (WE ns n m (some (.lst (W.map nD))) (some (.lst (hs.map D.int))) v6 (some (nD k)) v8 none none)=some (.int (ns.getD k 0)):=λv6 v8=>(Zh (x:=.lst (ns.map D.int)) (y:=nD k) rfl rfl).trans (Zh0 hk)
 obtain⟨i,ei⟩:=Zax (ns.getD k 0) (b:=7) (by decide) (by decide);obtain⟨p,ep,hp⟩:=UP i hm;obtain⟨t,et,ht⟩:=UP (ns.getD k 0) hm;have hpl:p<R.length:=by rw [hR.len];exact hp
 obtain⟨m1,m2⟩:=U5 hpl
 have t1:Xs 6 w5a (WE ns n m (some (.lst (W.map nD))) (some (.lst (hs.map D.int))) (some (PM R)) (some (nD k)) v8 none none)=some (.nx (WE ns n m (some (.lst (W.map nD))) (some (.lst (hs.map D.int))) (some (PM R)) (some (nD k)) (some (nD p)) none none)):=
  Zcg (δ0:=WE ns n m (some (.lst (W.map nD))) (some (.lst (hs.map D.int))) none (some (nD k)) v8 none none) (δ':=WE ns n m (some (.lst (W.map nD))) (some (.lst (hs.map D.int))) none (some (nD k)) (some (nD p)) none none) rfl (ZK ((Zh ((Zh (ek _ _) rfl).trans ei) rfl).trans ep)) rfl rfl
 have er:eOp ixD (Za 6) (Za 8) (WE ns n m (some (.lst (W.map nD))) (some (.lst (hs.map D.int))) (some (PM R)) (some (nD k)) (some (nD p)) none none)=some (AD (R.getD p [])):=(Zh (x:=PM R) (y:=nD p) rfl rfl).trans (Vf (by rw [List.getElem?_map,m1];rfl))
 have ec:xB (eOp (Z6 λi j=>decide (i<j)) (eCB lenD (Zb (eOp ixD (Za 6) (Za 8)) eNil)) (eC (.int 8))) (WE ns n m (some (.lst (W.map nD))) (some (.lst (hs.map D.int))) (some (PM R)) (some (nD k)) (some (nD p)) none none)=some (decide ((R.getD p []).length<8)):=
  ZN ((Zh (x:=nD (R.getD p []).length) (y:=nD 8) ((ZI (Zi er nil_of)).trans (by show some (D.int (((R.getD p []).map nD).length:Int))=_;rw [List.length_map])) rfl).trans (QF _ _))
 by_cases hl:(R.getD p []).length<8
 · rw [decide_eq_true hl]at ec
   refine⟨push R p t,some (nD p),(Zu t1).trans ((XM ec).trans ((ZeJ (xs:=R.map AD) (r:=(R.getD p []).map nD) (j:=p) (d:=nD t) rfl rfl ((Zh (ek _ _) rfl).trans et) rfl (by rw [List.getElem?_map,m1];rfl) (by rw [List.length_map];omega)).trans ?_)),hR.push hp ht (by omega),λr hr => ?_⟩
   · rw [ZgR]
     rfl
   · rcases List.mem_or_eq_of_mem_set hr with z|z
     · exact h8 r z
     · subst z
       rw [List.length_append,List.length_singleton];omega
 · rw [decide_eq_false hl]at ec
   exact⟨R,some (nD p),(Zu t1).trans ((Yo ec).trans rfl),hR,h8⟩
def Xh(W:List Nat)(r:List Nat):Nat:=(r.map λt=>W.getD t 0).sum
def bC:DL.Env->Option D:=(eOp ixD (Za 1) (Za 0))
structure Wts(m:Nat)(W:List Nat):Prop where
 len:W.length=m
 w1:∀w∈W,1<=w/\w<=5
theorem Wts.at{k:Nat}(h:Wts m W)(hk:k<m):ixD (.lst (W.map nD)) (nD k)=some (nD (W.getD k 0))/\1<=W.getD k 0/\W.getD k 0<=5:=by
 have hl:k<W.length:=by rw [h.len];exact hk
 have hg:W[k]? = some (W.getD k 0):=by
  rw [List.getD_eq_getElem?_getD,List.getElem?_eq_getElem hl];rfl
 exact⟨Vf (by rw [List.getElem?_map,hg];rfl),h.w1 _ (List.mem_of_getElem? hg)⟩
theorem Zgg(hW:Wts m W){R:List (List Nat)}(hR:Rw m R){k:Nat}(hk:k<m)(hn6:n<=6):J9 [.lst (W.map nD),PM R,nD k,nD n]=some (.bl (decide (n*W.getD k 0<=Xh W (R.getD k [])))):=by
 have hkl:k<R.length:=by rw [hR.len];exact hk
 obtain⟨m1,m2⟩:=U5 hkl;obtain⟨a1,a2,a3⟩:=hW.at hk;refine YE (δ:=[some (.lst (W.map nD)),some (PM R),some (nD k),some (nD n)]) rfl (Yn ?_)
 have e1:eCB sumLD (Zb (ZF (ZH (eOp ixD (Za 1) (Za 2))) (Zw 0) (λ_=>some true) bC 1 [0]) eNil) [some (.lst (W.map nD)),some (PM R),some (nD k),some (nD n)]=some (nD (Xh W (R.getD k []))):=by
  refine(ZI (Zi (Yx (δ0:=[none,some (.lst (W.map nD))]) (xs:=(R.getD k []).map nD) (ys:=((R.getD k []).map λt=>W.getD t 0).map nD) ?_ rfl ?_ ?_) nil_of)).trans (ZcI _)
  · exact Zf3 ((Zh (x:=PM R) (y:=nD k) rfl rfl).trans (Vf (by rw [List.getElem?_map,m1];rfl)))
  · rw [List.map_map]
    exact YW (ε:=bC) nD _ (R.getD k []) λt ht=>⟨[some (nD t),some (.lst (W.map nD))],rfl,(Zh (x:=.lst (W.map nD)) (y:=nD t) rfl rfl).trans (hW.at (hR.lt _ m2 t ht)).1⟩
  · rw [List.length_map,List.length_map]
    have:=hR.ln _ m2;omega
 have e2:eOp mulX (Za 3) (eOp ixD (Za 0) (Za 2)) [some (.lst (W.map nD)),some (PM R),some (nD k),some (nD n)]=some (.int ((n:Int)*(W.getD k 0:Nat))):=(Zh (x:=nD n) (y:=nD (W.getD k 0)) rfl ((Zh (x:=.lst (W.map nD)) (y:=nD k) rfl rfl).trans a1)).trans (JW (by omega) (by omega));refine(Zh e1 e2).trans ?_;show some (D.bl (decide ((n:Int)*(W.getD k 0:Nat)<=((Xh W (R.getD k []):Nat):Int))))=_
 by_cases h:n*W.getD k 0<=Xh W (R.getD k [])
 · rw [decide_eq_true h, decide_eq_true (by have h2 : ((n * W.getD k 0 : Nat) : Int) <= ((Xh W (R.getD k []) : Nat) : Int) := by exact_mod_cast h
                                            push_cast at h2
                                            exact h2)]
 · rw [decide_eq_false h, decide_eq_false (fun z => h (by have z2 : ((n * W.getD k 0 : Nat) : Int) <= ((Xh W (R.getD k []) : Nat) : Int) := by push_cast; exact z
                                                          exact_mod_cast z2))]
theorem ZbO(hW:Wts m W):∀r:List Nat,(∀t∈r,t<m)->r.length<=Xh W r
 | [],_=>Nat.zero_le _
 |t::r,h=>by
  have ih:=ZbO hW r λx hx=>h x (List.mem_cons_of_mem _ hx)
  have:=(hW.at (h t List.mem_cons_self)).2.1;show r.length+1<=(W.getD t 0::r.map λt=>W.getD t 0).sum;rw [List.sum_cons];unfold Xh at ih;omega
end
end K39
namespace K39
open DL L2
section
variable{ns:List Int}{n m:Nat}{W:List Nat}{hs:List Int}
abbrev WF(ns:List Int)(n m:Nat)(W:List Nat)(hs:List Int)(R:List (List Nat))(v7 v8 v9 v10:Option D):DL.Env:=WE ns n m (some (.lst (W.map nD))) (some (.lst (hs.map D.int))) (some (PM R)) v7 v8 v9 v10
def wM(k:Nat):DL.Env->Nat
 | [_,_,_,_,_,_,some (.lst xs),_,_,_,_]=>40-(match xs[k]? with
  |some (.lst r)=>r.length
  |_=>0)
 |_=>0
theorem ZiZ{R:List (List Nat)}{k:Nat}(hk:k<R.length)(v7 v8 v9 v10:Option D):wM k (WF ns n m W hs R v7 v8 v9 v10)=40-(R.getD k []).length:=by
 show 40-(match(R.map AD)[k]? with|some (.lst r)=>r.length|_=>0)=_;rw [List.getElem?_map,(U5 hk).1];show 40-((R.getD k []).map nD).length=_;rw [List.length_map]
theorem ZjR(hW:Wts m W)(hm:1<=m)(hm5:m<=5)(hn6:n<=6){R:List (List Nat)}(hR:Rw m R){k:Nat}(hk:k<m)(v7 v9:Option D):∃R' w9,w6b (WF ns n m W hs R v7 (some (nD k)) v9 none)=some (.nx (WF ns n m W hs R' v7 (some (nD k)) w9 none))/\Rw m R'/\n*W.getD k 0<=Xh W (R'.getD k [])/\∀i,i≠k->R'.getD i []=R.getD i []:=by
 obtain⟨i,ei⟩:=Zax (ns.getD (3+k) 0) (b:=20) (by decide) (by decide);obtain⟨t,et,ht⟩:=UP i hm
 have hidx:eOp addX (eOp addX (Za 1) (eC (.int 1))) (Za 8) (WE ns n m (some (.lst (W.map nD))) (some (.lst (hs.map D.int))) none v7 (some (nD k)) v9 none)=some (nD (3+k)):=by
  refine(Zh (x:=.int 3) (y:=nD k) ((Zh (x:=nD 2) (y:=.int 1) rfl rfl).trans rfl) rfl).trans ((add_int _ _).trans ?_);rw [show((3:Int)+(k:Int))=((3+k:Nat):Int) by push_cast;rfl]
 have t1:Xs 6 w6a (WF ns n m W hs R v7 (some (nD k)) v9 none)=some (.nx (WF ns n m W hs R v7 (some (nD k)) (some (nD t)) none)):=
  Zcg (δ0:=WE ns n m (some (.lst (W.map nD))) (some (.lst (hs.map D.int))) none v7 (some (nD k)) v9 none) (δ':=WE ns n m (some (.lst (W.map nD))) (some (.lst (hs.map D.int))) none v7 (some (nD k)) (some (nD t)) none) rfl (ZK ((Zh ((Zh ((Ye (n:=2) (Zi rfl (Zi hidx nil_of)) rfl).trans (QB ns (3+k))) rfl).trans ei) rfl).trans et)) rfl rfl
 obtain⟨δ',h1,R',t',rfl,g1,g2,g3⟩:=JR (τ:=w6t) (φ:=w6w) (λδ=>∃R' t',δ=WF ns n m W hs R' v7 (some (nD k)) (some (nD t')) none/\Rw m R'/\t'<m/\∀i,i≠k->R'.getD i []=R.getD i []) (λδ=>∃R' t',δ=WF ns n m W hs R' v7 (some (nD k)) (some (nD t')) none/\Rw m R'/\n*W.getD k 0<=Xh W (R'.getD k [])/\∀i,i≠k->R'.getD i []=R.getD i []) (wM k) (by
  rintro δ ⟨R',t',rfl,g1,g2,g3⟩
  have hkl:k<R'.length:=by rw [g1.len];exact hk
  obtain⟨m1,m2⟩:=U5 hkl;have hb:w6t (WF ns n m W hs R' v7 (some (nD k)) (some (nD t')) none)=some (!decide (n*W.getD k 0<=Xh W (R'.getD k []))):=JO (ZN ((Ye (n:=4) (Zi rfl (Zi rfl (Zi rfl (Zi rfl nil_of)))) rfl).trans (Zgg hW g1 hk hn6)))
  by_cases hz:n*W.getD k 0<=Xh W (R'.getD k [])
  · rw [decide_eq_true hz]at hb
    exact .inl ⟨hb,R',t',rfl,g1,hz,g3⟩
  · rw [decide_eq_false hz]at hb
    have hlen:=ZbO hW _ (g1.lt _ m2);have hw5:=(hW.at hk).2.2;have hnw:n*W.getD k 0<=6*5:=Nat.mul_le_mul hn6 hw5;have hl:(R'.getD k []).length<30:=by omega
    have a1:Vx 6 (Za 8) (Za 9) (WF ns n m W hs R' v7 (some (nD k)) (some (nD t')) none)=some (.nx (WF ns n m W hs (push R' k t') v7 (some (nD k)) (some (nD t')) none)):=by
     refine(ZeJ (xs:=R'.map AD) (r:=(R'.getD k []).map nD) (j:=k) (d:=nD t') rfl rfl rfl rfl (by rw [List.getElem?_map,m1];rfl) (by rw [List.length_map];omega)).trans ?_;rw [ZgR];rfl
    have ea:eOp addX (Za 9) (eC (.int 1)) (WE ns n m (some (.lst (W.map nD))) (some (.lst (hs.map D.int))) none v7 (some (nD k)) (some (nD t')) none)=some (nD (t'+1)):=by
     refine(Zh (x:=nD t') (y:=.int 1) rfl rfl).trans ((add_int _ _).trans ?_);rw [show((t':Int)+1)=((t'+1:Nat):Int) by push_cast;rfl]
    have a2:Xs 6 w6c (WF ns n m W hs (push R' k t') v7 (some (nD k)) (some (nD t')) none)=some (.nx (WF ns n m W hs (push R' k t') v7 (some (nD k)) (some (nD ((t'+1) % m))) none)):=
     Zcg (δ0:=WE ns n m (some (.lst (W.map nD))) (some (.lst (hs.map D.int))) none v7 (some (nD k)) (some (nD t')) none) (δ':=WE ns n m (some (.lst (W.map nD))) (some (.lst (hs.map D.int))) none v7 (some (nD k)) (some (nD ((t'+1) % m))) none) rfl (ZK ((Zh ea rfl).trans (U4 hm))) rfl rfl
    refine .inr ⟨hb,_,(Zu a1).trans a2,⟨push R' k t',(t'+1) % m,rfl,g1.push hk g2 hl,Nat.mod_lt _ hm,λi hi => ?_⟩,?_⟩
    · rw [ZaK hkl,if_neg hi]
      exact g3 i hi
    · rw [ZiZ (by unfold push;rw [List.length_set];exact hkl),ZiZ hkl,ZaK hkl,if_pos rfl,List.length_append,List.length_singleton]
      omega) (WF ns n m W hs R v7 (some (nD k)) (some (nD t)) none) ⟨R,t,rfl,hR,ht,λ_ _=>rfl⟩
 exact⟨R',some (nD t'),(Zu t1).trans h1,g1,g2,g3⟩
theorem ZlC(hW:Wts m W)(hm:1<=m)(hm5:m<=5)(hn6:n<=6){R:List (List Nat)}(hR:Rw m R)(v7 v8:Option D):∃R' w8 w9,w6 (WF ns n m W hs R v7 v8 none none)=some (.nx (WF ns n m W hs R' v7 w8 w9 none))/\Rw m R'/\∀k<m,n*W.getD k 0<=Xh W (R'.getD k []):=by
 obtain⟨δ',h1,R',w8,w9,rfl,g1,g2⟩:=QC (γ:=Zw 8) (φ:=w6b) nD (λdn δ=>∃R' w8 w9,δ=WF ns n m W hs R' v7 w8 w9 none/\Rw m R'/\∀i<dn.length,n*W.getD i 0<=Xh W (R'.getD i [])) (List.range m) (by
  rintro dn x rest δ e ⟨R',w8,w9,rfl,g1,g2⟩
  obtain⟨rfl,hk⟩:=Zbk e;obtain⟨R2,x9,f1,f2,f3,f4⟩:=ZjR (ns:=ns) (hs:=hs) hW hm hm5 hn6 g1 hk v7 w9;refine⟨WF ns n m W hs R' v7 (some (nD dn.length)) w9 none,rfl,_,f1,R2,_,_,rfl,f2,λi hi => ?_⟩;rw [List.length_append,List.length_singleton]at hi
  by_cases h:i=dn.length
  · rw [h];exact f3
  · rw [f4 i h];exact g2 i (by omega)) (List.range m) [] (WF ns n m W hs R v7 v8 none none) rfl ⟨R,v8,none,rfl,hR,λi hi=>by cases hi⟩
 rw [List.length_range]at g2;exact⟨R',w8,w9,Ve ((Vd (j:=(m:Int)) (Zi rfl nil_of) (by omega) (by omega)).trans (by rw [Int.toNat_natCast,Uq])) h1,g1,g2⟩
theorem ZlD(hm:1<=m)(hm5:m<=5)(hns:ns.length<=63){R:List (List Nat)}(hR:Rw m R)(h8:∀r∈R,r.length<=8):∃R' w7 w8,w5 (WF ns n m W hs R none none none none)=some (.nx (WF ns n m W hs R' w7 w8 none none))/\Rw m R':=by
 obtain⟨δ',h1,R',w7,w8,rfl,g1,g2⟩:=JQ (γ:=Zw 7) (φ:=w5b) (λδ=>∃R' w7 w8,δ=WF ns n m W hs R' w7 w8 none none/\Rw m R'/\∀r∈R',r.length<=8) (Y3 8 1 ((ns.length:Int)-8).toNat) (WF ns n m W hs R none none none none) ⟨R,none,none,rfl,hR,h8⟩ (by
  rintro x hx δ ⟨R',w7,w8,rfl,g1,g2⟩
  obtain⟨j,hj,rfl⟩:=Zce hx;have hk:8+j<ns.length:=by omega
  obtain⟨R2,x8,f1,f2,f3⟩:=ZjQ (ns:=ns) (n:=n) (W:=W) (hs:=hs) hm hm5 g1 g2 hk w8;refine⟨WF ns n m W hs R' (some (nD (8+j))) w8 none none,?_,_,f1,R2,_,_,rfl,f2,f3⟩;rw [show(8:Int)+(j:Nat)*1=((8+j:Nat):Int) by push_cast;omega];rfl)
 refine⟨R',w7,w8,Ve ?_ h1,g1⟩
 have hl:eCB lenD (Zb (Za 0) eNil) (WF ns n m W hs R none none none none)=some (.int (ns.length:Int)):=by
  refine(ZI (Zi (x:=.lst (ns.map D.int)) rfl nil_of)).trans ?_;show some (D.int ((ns.map D.int).length:Int))=_;rw [List.length_map]
 exact ZjF (i:=8) (j:=(ns.length:Int)) (Zi ((Zh (x:=nD 2) (y:=.int 6) rfl rfl).trans rfl) (Zi hl nil_of)) (by omega) (by omega) (by omega) (by omega)
theorem ZlE(hm:1<=m)(hm5:m<=5){R:List (List Nat)}(hR:Rw m R)(v7 v8 v9:Option D):∃Y:List (List Way),w7 (WF ns n m W hs R v7 v8 v9 none)=some (.rt (Zr W hs Y))/\Y.length=m/\∀i<m,(Y.getD i []).map Prod.snd=R.getD i []/\(∀p∈Y.getD i [],p.1.length=3/\Xx p.1)/\(Y.getD i []).Nodup:=by
 obtain⟨i,ei⟩:=Zax (ns.getD 1 0) (b:=2) (by decide) (by decide);obtain⟨tw,et,_⟩:=UP i (m:=2) (by decide)
 obtain⟨δ',h1,Y,w8,rfl,g1,g2⟩:=QC (γ:=Zw 8) (φ:=w7b) nD (λdn δ=>∃(Y:List (List Way)) (w8:Option D),δ=WF ns n m W hs R v7 w8 v9 (some (.lst (Y.map ZA)))/\Y.length=dn.length/\∀i<dn.length,(Y.getD i []).map Prod.snd=R.getD i []/\(∀p∈Y.getD i [],p.1.length=3/\Xx p.1)/\(Y.getD i []).Nodup) (List.range m) (by
  rintro dn x rest δ e ⟨Y,w8,rfl,g1,g2⟩
  obtain⟨rfl,hk⟩:=Zbk e;have hkl:dn.length<R.length:=by rw [hR.len];exact hk
  obtain⟨m1,m2⟩:=U5 hkl;obtain⟨ws,f1,f2,f3⟩:=Zgf (R.getD dn.length []) (tw:Int) (by have:=hR.ln _ m2;omega);have er:eOp ixD (Za 6) (Za 8) (WF ns n m W hs R v7 (some (nD dn.length)) v9 (some (.lst (Y.map ZA))))=some (AD (R.getD dn.length [])):=(Zh (x:=PM R) (y:=nD dn.length) rfl rfl).trans (Vf (by rw [List.getElem?_map,m1];rfl));have ew:eOp modW (eOp fdivW (ZB 2 YQ [] (Zb (Za 0) (Zb (eC (.int 1)) eNil))) (eC (.int 2))) (eC (.int 2)) (WF ns n m W hs R v7 (some (nD dn.length)) v9 (some (.lst (Y.map ZA))))=some (.int (tw:Int)):=(Zh ((Zh ((Ye (n:=2) (Zi rfl (Zi (x:=.int (1:Nat)) rfl nil_of)) rfl).trans (QB ns 1)) rfl).trans ei) rfl).trans et
  refine⟨WF ns n m W hs R v7 (some (nD dn.length)) v9 (some (.lst (Y.map ZA))),rfl,WF ns n m W hs R v7 (some (nD dn.length)) v9 (some (.lst ((Y++[ws]).map ZA))),?_,Y++[ws],_,rfl,?_,λi hi => ?_⟩
  · refine(V7 (xs:=Y.map ZA) (d:=ZA ws) rfl ((Ye (n:=2) (Zi er (Zi ew nil_of)) rfl).trans f1) (by rw [List.length_map];omega)).trans ?_
    rw [List.map_append];rfl
  · rw [List.length_append,List.length_append,List.length_singleton,List.length_singleton,g1]
  · rw [List.length_append,List.length_singleton]at hi
    by_cases h:i=dn.length
    · subst h
      have:(Y++[ws]).getD dn.length []=ws:=by
       rw [List.getD_eq_getElem?_getD,List.getElem?_append_right (by omega),g1,Nat.sub_self];rfl
      rw [this];exact⟨f2,f3⟩
    · have : (Y ++ [ws]).getD i [] = Y.getD i [] := by
       rw [List.getD_eq_getElem?_getD,List.getElem?_append_left (by omega),<-List.getD_eq_getElem?_getD]
      rw [this];exact g2 i (by omega)) (List.range m) [] (WF ns n m W hs R v7 v8 v9 (some (.lst (([]:List (List Way)).map ZA)))) rfl ⟨[],v8,rfl,rfl,λi hi=>by cases hi⟩
 rw [List.length_range]at g1 g2;refine⟨Y,?_,g1,g2⟩;refine(Zu (δ':=WF ns n m W hs R v7 v8 v9 (some (.lst (([]:List (List Way)).map ZA)))) (ZK (XN (ds:=[]) rfl (by decide)))).trans ((Zu (Ve ((Vd (j:=(m:Int)) (Zi rfl nil_of) (by omega) (by omega)).trans (by rw [Int.toNat_natCast,Uq])) h1)).trans (Yn (Vz ?_ (by show 3<=1000;decide))));exact Zi ((ZI (Zi (x:=.lst (hs.map D.int)) rfl nil_of)).trans rfl) (Zi ((ZI (Zi (x:=.lst (W.map nD)) rfl nil_of)).trans rfl) (Zi ((ZI (Zi (x:=.lst (Y.map ZA)) rfl nil_of)).trans rfl) nil_of))
end
end K39
namespace K39
open DL L2
theorem Zcj(a:Nat):addX (.int 1) (nD a)=some (nD (1+a)):=by
 refine(add_int _ _).trans ?_;rw [show((1:Int)+(a:Int))=((1+a:Nat):Int) by push_cast;rfl]
section
variable{ns:List Int}{n m:Nat}{W:List Nat}{hs:List Int}
abbrev BE(ns:List Int)(k:Nat):DL.Env:=[some (nD k),some (.lst (ns.map D.int)),some (nD 2)]
theorem ZgS(k:Nat):ZB 2 YQ [] (Zb (Za 1) (Zb (eOp addX (eOp addX (Za 2) (eC (.int 1))) (Za 0)) eNil)) (BE ns k)=some (.int (ns.getD (3+k) 0)):=by
 refine(Ye (n:=2) (Zi rfl (Zi (x:=nD (3+k)) ?_ nil_of)) rfl).trans (QB ns (3+k));refine(Zh (x:=.int 3) (y:=nD k) ((Zh (x:=nD 2) (y:=.int 1) rfl rfl).trans rfl) rfl).trans ((add_int _ _).trans ?_);rw [show((3:Int)+(k:Int))=((3+k:Nat):Int) by push_cast;rfl]
theorem ZlF(hm5:m<=5):∃W,Wts m W/\w2 (WE ns n m none none none none none none none)=some (.nx (WE ns n m (some (.lst (W.map nD))) none none none none none none)):=by
 have XR:∀k:Nat,∃a:Nat,w2e (BE ns k)=some (nD a)/\1<=a/\a<=5:=λk=>by
  obtain⟨a,e,ha⟩:=UP (ns.getD (3+k) 0) (m:=5) (by decide);exact⟨1+a,(Zh (x:=.int 1) (y:=nD a) rfl ((Zh (ZgS k) rfl).trans e)).trans (Zcj a),by omega,by omega⟩
 refine⟨(List.range m).map λk=>Classical.choose (XR k),⟨by rw [List.length_map,List.length_range],λw hw => ?_⟩,?_⟩
 · obtain⟨k,_,rfl⟩:=List.mem_map.mp hw
   exact(Classical.choose_spec (XR k)).2
 · refine ZK (Yx (δ0:=[none,some (.lst (ns.map D.int)),some (nD 2)]) (xs:=(List.range m).map nD) ?_ rfl ?_ ?_)
   · refine(Vd (j:=(m:Int)) (Zi rfl nil_of) (by omega) (by omega)).trans ?_
     rw [Int.toNat_natCast,Uq]
   · rw [List.map_map]
     exact YW (ε:=w2e) nD _ (List.range m) λk _=>⟨BE ns k,rfl,(Classical.choose_spec (XR k)).1⟩
   · rw [List.length_map,List.length_map,List.length_range]
     omega
theorem ZlG(hm5:m<=5)(v4:Option D):∃hs:List Int,hs.length=m/\w3 (WE ns n m v4 none none none none none none)=some (.nx (WE ns n m v4 (some (.lst (hs.map D.int))) none none none none none)):=by
 have XR:∀k:Nat,∃a:Int,w3e (BE ns k)=some (.int a):=λk=>by
  obtain⟨i,ei⟩:=Zax (ns.getD (3+k) 0) (b:=5) (by decide) (by decide);obtain⟨a,e,ha⟩:=UP i (m:=4) (by decide);exact⟨a,(Zh ((Zh (ZgS k) rfl).trans ei) rfl).trans e⟩
 refine⟨(List.range m).map λk=>Classical.choose (XR k),by rw [List.length_map,List.length_range],?_⟩
 · refine ZK (Yx (δ0:=[none,some (.lst (ns.map D.int)),some (nD 2)]) (xs:=(List.range m).map nD) ?_ rfl ?_ ?_)
   · refine(Vd (j:=(m:Int)) (Zi rfl nil_of) (by omega) (by omega)).trans ?_
     rw [Int.toNat_natCast,Uq]
   · rw [List.map_map]
     exact YW (ε:=w3e) nD _ (List.range m) λk _=>⟨BE ns k,rfl,Classical.choose_spec (XR k)⟩
   · rw [List.length_map,List.length_map,List.length_range]
     omega
def Ur(m:Nat):List (List Nat):=(List.range m).map λk=>[(k+1) % m]
theorem Zik{k:Nat}(hk:k<m):(Ur m).getD k []=[(k+1) % m]:=by
 unfold Ur;rw [List.getD_eq_getElem?_getD,List.getElem?_map,List.getElem?_range hk];rfl
theorem Zil(hm:1<=m):Rw m (Ur m):=by
 refine⟨by unfold Ur;rw [List.length_map,List.length_range],λr hr t ht => ?_,λr hr => ?_,λk hk => ?_⟩
 · obtain⟨k,_,rfl⟩:=List.mem_map.mp hr
   rw [List.mem_singleton.mp ht];exact Nat.mod_lt _ hm
 · obtain⟨k,_,rfl⟩:=List.mem_map.mp hr
   show 1<=30
   decide
 · rw [Zik hk]
   exact List.mem_singleton.mpr rfl
theorem ZlH(hm:1<=m)(hm5:m<=5)(v4 v5:Option D):w4 (WE ns n m v4 v5 none none none none none)=some (.nx (WE ns n m v4 v5 (some (PM (Ur m))) none none none none)):=by
 refine ZjG (d:=PM (Ur m)) (Zij (Yx (δ0:=[none,some (nD m)]) (xs:=(List.range m).map nD) ?_ rfl ?_ ?_) (ZbN (Ur m))) (by show 6<11;decide)
 · refine(Vd (j:=(m:Int)) (Zi rfl nil_of) (by omega) (by omega)).trans ?_
   rw [Int.toNat_natCast,Uq]
 · unfold Ur
   rw [List.map_map];refine YW (ε:=w4e) nD _ (List.range m) λk _=>⟨[some (nD k),some (nD m)],rfl,XN (ds:=[nD ((k+1) % m)]) (Zi ?_ nil_of) (by show 1<=1000;decide)⟩
   refine(Zh (x:=nD (k+1)) (y:=nD m) ((Zh (x:=nD k) (y:=.int 1) rfl rfl).trans ((add_int _ _).trans ?_)) rfl).trans (U4 hm);rw [show((k:Int)+1)=((k+1:Nat):Int) by push_cast;rfl]
 · unfold Ur
   rw [List.length_map,List.length_map,List.length_range];omega
theorem ZjS(W:List Nat)(r:List Way):(r.map λp=>W.getD p.2 0).sum=Xh W (r.map Prod.snd):=by
 unfold Xh;rw [List.map_map];rfl
theorem Zd7:∀(l:List Nat)(b:Nat),(∀x∈l,x<=b)->l.sum<=l.length*b
 | [],_,_=>Nat.zero_le _
 |a::l,b,h=>by
  rw [List.length_cons,List.sum_cons,Nat.succ_mul];have h1:=Zd7 l b λx hx=>h x (List.mem_cons_of_mem _ hx)
  have h2:=h a List.mem_cons_self;omega
theorem Zim{Y:List (List Way)}(hm:1<=m)(hr:∀k<m,∃p∈Y.getD k [],p.2=(k+1) % m)(S:Nat->Prop)(hc:∀k<m,S k->∀p∈Y.getD k [],S p.2)(a:Nat)(ha:a<m)(h0:S a)(b:Nat)(hb:b<m):S b:=by
 have run:∀j,S ((a+j) % m):=by
  intro j
  induction j with
  |zero=>rw [Nat.add_zero,Nat.mod_eq_of_lt ha];exact h0
  |succ j ih=>
   obtain⟨p,hp,e⟩:=hr ((a+j) % m) (Nat.mod_lt _ hm);have:=hc _ (Nat.mod_lt _ hm) ih p hp
   rwa [e,Nat.add_mod ((a+j) % m) 1 m,Nat.mod_mod,<-Nat.add_mod,Nat.add_assoc]at this
 have:=run (b+m-a)
 rwa [show a+(b+m-a)=b+m by omega,Nat.add_mod_right,Nat.mod_eq_of_lt hb]at this
theorem ZjT(hns:ns.length<=63)(hn1:1<=n)(hn6:n<=6):∃m W hs Y,Ok n m W hs Y/\Q8 [.lst (ns.map D.int),nD 2,nD n]=some (Zr W hs Y):=by
 obtain⟨a,ea,ha⟩:=UP (ns.getD 2 0) (m:=5) (by decide);have hm:1<=1+a:=by omega
 have hm5:1+a<=5:=by omega
 obtain⟨W,hW,t2⟩:=ZlF (ns:=ns) (n:=n) hm5;obtain⟨hs,lh,t3⟩:=ZlG (ns:=ns) (n:=n) hm5 (some (.lst (W.map nD)));have t4:=ZlH (ns:=ns) (n:=n) hm hm5 (some (.lst (W.map nD))) (some (.lst (hs.map D.int)))
 obtain⟨R5,u7,u8,t5,r5⟩:=ZlD (ns:=ns) (n:=n) (W:=W) (hs:=hs) hm hm5 hns (Zil hm) (λr hr=>by
  obtain⟨k,_,rfl⟩:=List.mem_map.mp hr;show 1<=8
  decide)
 obtain⟨R6,x8,x9,t6,r6,b6⟩:=ZlC (ns:=ns) (n:=n) (W:=W) (hs:=hs) hW hm hm5 hn6 r5 u7 u8;obtain⟨Y,t7,ly,hy⟩:=ZlE (ns:=ns) (n:=n) (W:=W) (hs:=hs) hm hm5 r6 u7 x8 x9;refine⟨1+a,W,hs,Y,?_,YE (δ:=[some (.lst (ns.map D.int)),some (nD 2),some (nD n),none,none,none,none,none,none,none,none]) rfl ?_⟩
 · have rowY : ∀ r ∈ Y, ∃ i < 1 + a, r.map Prod.snd = R6.getD i [] /\ R6.getD i [] ∈ R6 /\ (∀ p ∈ r, p.1.length = 3 /\ Xx p.1) /\ r.Nodup := fun r hr => by
    obtain⟨i,hi,e⟩:=List.getElem_of_mem hr
    have e2:Y.getD i []=r:=by
     rw [List.getD_eq_getElem?_getD,List.getElem?_eq_getElem hi,e];rfl
    have hi2:i<1+a:=by omega
    obtain⟨y1,y2⟩:=hy i hi2;rw [e2]at y1 y2;exact⟨i,hi2,y1,(U5 (by rw [r6.len];exact hi2)).2,y2⟩
   have wle:∀i<1+a,W.getD i 0<=5:=λi hi=>(hW.at hi).2.2
   refine⟨hm,hn1,hn6,hW.len,lh,ly,hW.w1,?_,λr hr => ?_,λr hr p hp => ?_,λr hr => ?_,λr hr => ?_,Zim hm λk hk => ?_,λk hk => ?_⟩
   · have h1:=Zd7 W 5 λx hx=>(hW.w1 x hx).2
     rw [hW.len]at h1;omega
   · obtain⟨i,_,e1,e2,_⟩:=rowY r hr
     have h0:=r6.ln _ e2;rw [<-e1,List.length_map]at h0
     have h1:=Zd7 (r.map λp=>W.getD p.2 0) 5 λx hx=>by
      obtain⟨p,hp,rfl⟩:=List.mem_map.mp hx;exact wle _ (r6.lt _ e2 p.2 (by rw [<-e1];exact List.mem_map.mpr ⟨p,hp,rfl⟩))
     rw [List.length_map]at h1;omega
   · obtain⟨i,_,e1,e2,_⟩:=rowY r hr
     refine r6.lt _ e2 p.2 ?_;rw [<-e1];exact List.mem_map.mpr ⟨p,hp,rfl⟩
   · obtain⟨i,_,_,_,e3⟩:=rowY r hr
     exact e3.1
   · obtain⟨i,_,_,_,e3⟩:=rowY r hr
     exact e3.2
   · have:=r6.st k hk
     rw [<-(hy k hk).1]at this;obtain⟨p,hp,e⟩:=List.mem_map.mp this;exact⟨p,hp,e⟩
   · rw [ZjS,(hy k hk).1]
     exact b6 k hk
 · rw [ZjP]
   have t1:Zq 3 (eOp addX (eC (.int 1)) (eOp modW (ZB 2 YQ [] (Zb (Za 0) (Zb (Za 1) eNil))) (eC (.int 5)))) [some (.lst (ns.map D.int)),some (nD 2),some (nD n),none,none,none,none,none,none,none,none]=some (.nx (WE ns n (1+a) none none none none none none none)):=
    ZK ((Zh (x:=.int 1) (y:=nD a) rfl ((Zh ((Ye (n:=2) (Zi rfl (Zi (x:=nD 2) rfl nil_of)) rfl).trans (QB ns 2)) rfl).trans ea)).trans (Zcj a))
   exact(Zu t1).trans ((Zu t2).trans ((Zu t3).trans ((Zu t4).trans ((Zu t5).trans ((Zu t6).trans (ZjO t7))))))
theorem Zde:∀{r:List Way},(∀p∈r,Xx p.1)->PySem.PyData.canLayAll0 (Yq (r.map wyD))=true
 | [],_=>rfl
 |p::r,h=>by
  rw [List.map_cons,Yq,PySem.PyData.canLayAll0,Zde λq hq=>h q (List.mem_cons_of_mem _ hq),Bool.and_true];have:=Zda (h p List.mem_cons_self);simp [wyD,toP,Yq,PySem.PyData.canLay0,PySem.PyData.canLayAll0,this]
theorem Zdf:∀r:List Way,PySem.PyData.depthAll (Yq (r.map wyD))<=1
 | []=>Nat.zero_le _
 |p::r=>by
  rw [List.map_cons,Yq,PySem.PyData.depthAll];have ih:=Zdf r;have:(toP (wyD p)).depth=1:=by simp [wyD,toP,Yq,PySem.PyData.depth,PySem.PyData.depthAll]
  omega
theorem Zbl:∀{Y:List (List Way)},(∀r∈Y,∀p∈r,Xx p.1)->PySem.PyData.canLayAll0 (Yq (Y.map ZA))=true
 | [],_=>rfl
 |r::Y,h=>by
  rw [List.map_cons,Yq,PySem.PyData.canLayAll0,Zbl λq hq=>h q (List.mem_cons_of_mem _ hq),Bool.and_true];have:=Zde (h r List.mem_cons_self);simp [ZA,toP,PySem.PyData.canLay0,this]
theorem Zbm:∀Y:List (List Way),PySem.PyData.depthAll (Yq (Y.map ZA))<=2
 | []=>Nat.zero_le _
 |r::Y=>by
  rw [List.map_cons,Yq,PySem.PyData.depthAll];have ih:=Zbm Y;have:=Zdf r
  have:(toP (ZA r)).depth<=2:=by
   show PySem.PyData.depthAll (Yq (r.map wyD))+1<=2;omega
  omega
theorem Zaj{Y:List (List Way)}(h:Ok n m W hs Y):PySem.SeqAt.shaped (toP (Zr W hs Y))=true:=by
 have e1:=Zbl λr hr p hp=>(h.cd r hr p hp).2
 have e2:=Zbm Y
 have e3:PySem.PyData.canLayAll0 (Yq (W.map nD))=true:=by
  have:=JU (W.map λa=>((a:Nat):Int))
  rwa [List.map_map]at this
 have e4:PySem.PyData.depthAll (Yq (W.map nD))=0:=by
  have:=JV (W.map λa=>((a:Nat):Int))
  rwa [List.map_map]at this
 simp [PySem.SeqAt.shaped,Zr,HD,WD,YD,toP,Yq,PySem.PyData.canLay0,PySem.PyData.canLayAll0,PySem.PyData.depth,PySem.PyData.depthAll,JU,JV,e1,e3,e4];omega
end
end K39
namespace K39
open DL L2
theorem Zd8:∀{a b:List Nat},a.Pairwise (· < ·)->b.Pairwise (· < ·)->(∀t,t∈a ↔ t∈b)->a=b
 | [],[],_,_,_=>rfl
 | [],y::b,_,_,h=>by
  have:=(h y).mpr List.mem_cons_self;cases this
 |x::a,[],_,_,h=>by
  have:=(h x).mp List.mem_cons_self;cases this
 |x::a,y::b,ha,hb,h=>by
  obtain⟨a1,a2⟩:=List.pairwise_cons.mp ha;obtain⟨b1,b2⟩:=List.pairwise_cons.mp hb
  have e:x=y:=by
   rcases List.mem_cons.mp ((h x).mp List.mem_cons_self)with z|z
   · exact z
   · rcases List.mem_cons.mp ((h y).mpr List.mem_cons_self)with w|w
     · exact w.symm
     · have:=b1 x z
       have:=a1 y w;omega
  subst e
  have:a=b:=Zd8 a2 b2 λt=>⟨λz=>by
   rcases List.mem_cons.mp ((h t).mp (List.mem_cons_of_mem _ z))with w|w
   · have:=a1 t z
     omega
   · exact w,λz=>by
   rcases List.mem_cons.mp ((h t).mpr (List.mem_cons_of_mem _ z))with w|w
   · have:=b1 t z
     omega
   · exact w⟩
  rw [this]
theorem ZjU(w:Way):ixD (wyD w) (.int 0)=some (.str w.1):=ix_tup (a:=0) rfl
def dbl(place new:Nat)(p:Way):List Way:=if p.2=place then [p,(p.1,new)]else [p]
def ZG(place new:Nat)(r:List Way):List Way:=r.flatMap (dbl place new)
theorem Zdg{place new:Nat}:∀{r:List Way},place∉r.map Prod.snd->ZG place new r=r
 | [],_=>rfl
 |p::r,h=>by
  rw [List.map_cons,List.mem_cons]at h;have ih:=Zdg (new:=new) λz=>h (.inr z)
  unfold ZG at ih ⊢;rw [List.flatMap_cons,ih];unfold dbl;rw [if_neg λz=>h (.inl z.symm)];rfl
theorem Za7(place new:Nat):∀r:List Way,(ZG place new r).length<=2*r.length
 | []=>Nat.le_refl _
 |p::r=>by
  have ih:=Za7 place new r;unfold ZG at ih ⊢;rw [List.flatMap_cons,List.length_append,List.length_cons]
  have:(dbl place new p).length<=2:=by
   unfold dbl
   by_cases h:p.2=place
   · rw [if_pos h];exact Nat.le_refl _
   · rw [if_neg h];exact(show 1<=2 by decide)
  omega
abbrev UE(X:D)(place new:Nat)(F:List Way)(v4:Option D):DL.Env:=[some X,some (nD place),some (nD new),some (.lst (F.map wyD)),v4]
def uC:DL.Env->Option D:=(eOp ixD (Za 0) (eC (.int 1)))
def uB:DL.Env->Option Out:=(Zf (YA 3 (Za 4)) (sIf (xB (eOp eqD (eOp ixD (Za 4) (eC (.int 1))) (Za 1))) (YA 3 (Yi (Zb (eOp ixD (Za 4) (eC (.int 0))) (Zb (Za 2) eNil)))) sNext))
theorem ZdN:f_QU=Zf (sIf (xB (eOp (inD true) (Za 1) (ZF (ZH (Za 0)) (Zw 0) (λ_=>some true) uC 1 []))) (Zy (Za 0)) sNext) (Zf (Zq 3 (Yc eNil)) (Zf (Yv (ZH (Za 0)) (Zw 4) uB) (Zy (eCB ZZ (Zb (Za 3) eNil))))):=rfl
def kd(q:Bool×List Way):D:=if q.1 then ZA q.2 else .lst (q.2.map wyD)
def dD(place new:Nat)(q:Bool×List Way):D:=if place∈q.2.map Prod.snd then ZA (ZG place new q.2)else kd q
theorem Zhf(q:Bool×List Way){ε:DL.Env->Option D}{δ:DL.Env}(h:ε δ=some (kd q)):ZH ε δ=some (q.2.map wyD):=by
 unfold ZH;rw [h];unfold kd;cases q.1 with
 |true=>rfl
 |false=>rfl
theorem ZdO{q:Bool×List Way}{place new:Nat}(hl:q.2.length<=300):J5 [kd q,nD place,nD new]=some (dD place new q):=by
 refine YE (δ:=[some (kd q),some (nD place),some (nD new),none,none]) rfl ?_;rw [ZdN]
 have c:xB (eOp (inD true) (Za 1) (ZF (ZH (Za 0)) (Zw 0) (λ_=>some true) uC 1 [])) [some (kd q),some (nD place),some (nD new),none,none]=some (!decide (place∈q.2.map Prod.snd)):=by
  refine ZN ((Zh (x:=nD place) (y:=AD (q.2.map Prod.snd)) rfl (Yx (δ0:=[none]) (xs:=q.2.map wyD) (Zhf q rfl) rfl ?_ ?_)).trans (ZiV _ _))
  · rw [List.map_map]
    exact YW (ε:=uC) wyD _ q.2 λp _=>⟨[some (wyD p)],rfl,(Zh (x:=wyD p) (y:=.int 1) rfl rfl).trans (Up p)⟩
  · rw [List.length_map,List.length_map]
    omega
 unfold dD
 by_cases hz:place∈q.2.map Prod.snd
 · rw [decide_eq_true hz]at c
   rw [if_pos hz]
   obtain⟨δ',h1,w4,rfl⟩:=QC (γ:=Zw 4) (φ:=uB) wyD (λdn δ=>∃w4,δ=UE (kd q) place new (ZG place new dn) w4) q.2 (by
    rintro dn x rest δ e ⟨w4,rfl⟩
    have hdn:dn.length<=300:=by
     have:=congrArg List.length e;rw [List.length_append,List.length_cons]at this;omega
    have hb:=Za7 place new dn;refine⟨UE (kd q) place new (ZG place new dn) (some (wyD x)),rfl,UE (kd q) place new (ZG place new (dn++[x])) (some (wyD x)),?_,_,rfl⟩
    have es:ZG place new (dn++[x])=ZG place new dn++dbl place new x:=by
     unfold ZG;rw [List.flatMap_append];simp
    rw [es]
    have a1:YA 3 (Za 4) (UE (kd q) place new (ZG place new dn) (some (wyD x)))=some (.nx (UE (kd q) place new (ZG place new dn++[x]) (some (wyD x)))):=by
     refine(V7 (xs:=(ZG place new dn).map wyD) (d:=wyD x) rfl rfl (by rw [List.length_map];omega)).trans ?_;have em:(ZG place new dn).map wyD++[wyD x]=(ZG place new dn++[x]).map wyD:=by rw [List.map_append];rfl
     rw [em];rfl
    refine(Zu a1).trans ?_;have c1:xB (eOp eqD (eOp ixD (Za 4) (eC (.int 1))) (Za 1)) (UE (kd q) place new (ZG place new dn++[x]) (some (wyD x)))=some (decide (x.2=place)):=ZN ((Zh ((Zh (x:=wyD x) (y:=.int 1) rfl rfl).trans (Up x)) rfl).trans (UN _ _));unfold dbl
    by_cases hx:x.2=place
    · rw [decide_eq_true hx]at c1
      rw [if_pos hx];refine(XM c1).trans ((V7 (xs:=(ZG place new dn++[x]).map wyD) (d:=wyD (x.1,new)) rfl (Vz (Zi ((Zh (x:=wyD x) (y:=.int 0) rfl rfl).trans (ZjU x)) (Zi rfl nil_of)) (by show 2<=1000;decide)) (by rw [List.length_map,List.length_append,List.length_singleton];omega)).trans ?_)
      have em:(ZG place new dn++[x]).map wyD++[wyD (x.1,new)]=(ZG place new dn++[x,(x.1,new)]).map wyD:=by
       rw [List.map_append,List.map_append,List.append_assoc];rfl
      rw [em];rfl
    · rw [decide_eq_false hx]at c1
      rw [if_neg hx];exact(Yo c1).trans rfl) q.2 [] (UE (kd q) place new [] none) rfl ⟨none,rfl⟩
   refine(Zu (δ':=[some (kd q),some (nD place),some (nD new),none,none]) ((Yo c).trans rfl)).trans ?_;exact(Zu (δ':=UE (kd q) place new [] none) (ZK (XN (ds:=[]) rfl (by decide)))).trans ((Zu (Ve (xs:=q.2.map wyD) (Zhf q rfl) h1)).trans (Yn ((ZI (Zi (x:=.lst ((ZG place new q.2).map wyD)) rfl nil_of)).trans rfl)))
 · rw [decide_eq_false hz]at c
   rw [if_neg hz];exact U0 ((XM c).trans (Yn rfl))
theorem ZjV{q:Bool×List Way}{place new:Nat}(hl:q.2.length<=300):U1 [dD place new q]=some (ZA (ZG place new q.2)):=by
 have:=Za7 place new q.2;unfold dD
 by_cases hz:place∈q.2.map Prod.snd
 · rw [if_pos hz]
   exact ZcH _ (by omega)
 · rw [if_neg hz,Zdg hz]
   unfold kd;cases q.1 with
   |true=>exact ZcH _ (by omega)
   |false=>exact ZgL _ (by omega)
def Zmc(hs:List Int)(ws:List D)(Y:List (List Way)):D := .obj "Web" ["homes", "weights", "ways"] [HD hs,.tup ws,YD Y]
theorem ZjW{hs:List Int}{ws:List D}{Y:List (List Way)}{Zs:List D}(hz:YB (Zw 0) (λ_=>some true) kE [none] Zs=some (Y.map ZA))(hl:Y.length<=100) :
 V8 [.obj "Web" [] [],.lst (hs.map D.int),.lst ws,.lst Zs]=some (Zmc hs ws Y):=by
 have he:∀x0,eCB ZZ (Zb (ZF (ZH (Za 3)) (Zw 0) (λ_=>some true) kE 1 []) eNil) [x0,some (.lst (hs.map D.int)),some (.lst ws),some (.lst Zs)]=some (YD Y):=λx0=>
  (ZI (Zi (Yx (δ0:=[none]) (xs:=Zs) rfl rfl hz (by rw [List.length_map];omega)) nil_of)).trans rfl
 have hq:f_QS [some (.obj "Web" [] []),some (.lst (hs.map D.int)),some (.lst ws),some (.lst Zs)]=some (.nx [some (Zmc hs ws Y),some (.lst (hs.map D.int)),some (.lst ws),some (.lst Zs)]):=by
  show Zf (Y0 0 XZ "homes" (eCB ZZ (Zb (Za 1) eNil))) (Zf (Y0 0 Yj "weights" (eCB ZZ (Zb (Za 2) eNil))) (Y0 0 Y6 "ways" (eCB ZZ (Zb (ZF (ZH (Za 3)) (Zw 0) (λ_=>some true) kE 1 []) eNil)))) _=_
  rw [Zu (δ':=[some (.obj "Web" ["homes"] [HD hs]),some (.lst (hs.map D.int)),some (.lst ws),some (.lst Zs)]) (by
   unfold Y0;rw [show eCB ZZ (Zb (Za 1) eNil) [some (.obj "Web" [] []),some (.lst (hs.map D.int)),some (.lst ws),some (.lst Zs)]=some (HD hs)from(ZI (Zi (x:=.lst (hs.map D.int)) rfl nil_of)).trans rfl];rfl)]
  rw [Zu (δ':=[some (.obj "Web" ["homes", "weights"] [HD hs,.tup ws]),some (.lst (hs.map D.int)),some (.lst ws),some (.lst Zs)]) (by
   unfold Y0;rw [show eCB ZZ (Zb (Za 2) eNil) [some (.obj "Web" ["homes"] [HD hs]),some (.lst (hs.map D.int)),some (.lst ws),some (.lst Zs)]=some (.tup ws)from(ZI (Zi (x:=.lst ws) rfl nil_of)).trans rfl];rfl)]
  unfold Y0;rw [he];rfl
 show(match f_QS [some (.obj "Web" [] []),some (.lst (hs.map D.int)),some (.lst ws),some (.lst Zs)]with
  |some (.nx δ)=>Za 0 δ
  |_=>none)=_
 rw [hq];rfl
end K39
namespace K39
open DL L2
def enN:Nat->List Way->List (Nat×Way)
 |_,[]=>[]
 |k,p::r=>(k,p)::enN (k+1) r
def enD(q:Nat×Way):D := .tup [nD q.1,wyD q.2]
theorem Zdh:∀(k:Nat)(r:List Way),Yk k (r.map wyD)=(enN k r).map enD
 |_,[]=>rfl
 |k,p::r=>by
  show D.tup [nD k,wyD p]::Yk (k+1) (r.map wyD)=enD (k,p)::(enN (k+1) r).map enD;rw [Zdh (k+1) r];rfl
theorem Zck:∀(k:Nat)(r:List Way),(enN k r).length=r.length
 |_,[]=>rfl
 |k,p::r=>by
  show(enN (k+1) r).length+1=r.length+1;rw [Zck]
theorem ZeK:∀{k:Nat}{r:List Way}{p:Way},p∈r->∃i,(i,p)∈enN k r
 |k,q::r,p,h=>by
  rcases List.mem_cons.mp h with z|z
  · exact⟨k,by rw [z];exact List.mem_cons_self⟩
  · obtain⟨i,hi⟩:=ZeK (k:=k+1) z
    exact⟨i,List.mem_cons_of_mem _ hi⟩
theorem ZgT:∀{k:Nat}{r:List Way}{i:Nat}{p:Way},(i,p)∈enN k r->p∈r
 |k,q::r,i,p,h=>by
  rcases List.mem_cons.mp h with z|z
  · rw [(Prod.mk.injEq .. ▸ z:i=k/\p=q).2];exact List.mem_cons_self
  · exact List.mem_cons_of_mem _ (ZgT z)
def Zt(b:Bool)(picks:List Nat)(r:List Way):List Way:=((enN 0 r).filter λq=>decide (q.1∈picks) == b).map Prod.snd
theorem Zac(b:Bool)(picks:List Nat)(r:List Way):(Zt b picks r).length<=r.length:=by
 unfold Zt;rw [List.length_map];exact Nat.le_trans (List.length_filter_le _ _) (Nat.le_of_eq (Zck 0 r))
theorem UQ{b:Bool}{picks:List Nat}{r:List Way}{p:Way}(h:p∈Zt b picks r):p∈r:=by
 obtain⟨⟨i,q⟩,hq,rfl⟩:=List.mem_map.mp h;exact ZgT (List.mem_filter.mp hq).1
theorem ZbP{picks:List Nat}{r:List Way}{p:Way}(h:p∈r):p∈Zt true picks r\/p∈Zt false picks r:=by
 obtain⟨i,hi⟩:=ZeK (k:=0) h
 by_cases z:i∈picks
 · exact .inl (List.mem_map.mpr ⟨(i,p),List.mem_filter.mpr ⟨hi,by simp [z]⟩,rfl⟩)
 · exact .inr (List.mem_map.mpr ⟨(i,p),List.mem_filter.mpr ⟨hi,by simp [z]⟩,rfl⟩)
theorem ZbQ{α:Type}{γ:D->DL.Env->Option DL.Env}{τ:DL.Env->Option Bool}{ε:DL.Env->Option D}{δ0:DL.Env}(g f:α->D)(p:α->Bool):∀(xs:List α),(∀x∈xs,∃δ1,γ (g x) δ0=some δ1/\τ δ1=some (p x)/\ε δ1=some (f x))->YB γ τ ε δ0 (xs.map g)=some ((xs.filter p).map f)
 | [],_=>rfl
 |x::xs,h=>by
  obtain⟨δ1,h1,h2,h3⟩:=h x List.mem_cons_self;have ih:=ZbQ g f p xs λy hy=>h y (List.mem_cons_of_mem _ hy)
  rw [List.map_cons];unfold YB;rw [h1];dsimp only;rw [h2];cases hp:p x with
  |false=>rw [List.filter_cons_of_neg (by simp [hp])];exact ih
  |true=>
   rw [List.filter_cons_of_pos hp,List.map_cons];dsimp only;rw [h3,ih]
theorem Za8{a b:List D}(h:a.length+b.length<=1000000):XJ (.lst a) (.lst b)=some (.lst (a++b)):=by
 show(if a.length+b.length<=PySem.sizeLine then some (D.lst (a++b))else none)=_;exact if_pos (by rw [PySem.sizeLine_eq];omega)
theorem Zcl{i:Nat}{κ ε:DL.Env->Option D}{δ:DL.Env}{xs:List D}{j:Nat}{d:D}(he:ε δ=some d)(hv:Za i δ=some (.lst xs))(hk:κ δ=some (nD j))(hj:j<xs.length):XH i κ ε δ=some (.nx (δ.set i (some (.lst (xs.set j d))))):=by
 unfold XH;rw [he,hv,hk];dsimp only;rw [ZeF hj]
section
variable{n m:Nat}{W:List Nat}{hs:List Int}{Y:List (List Way)}
abbrev SE(W:List Nat)(hs:List Int)(Y:List (List Way))(n place:Nat)(picks:List Nat)(v4 v5 v6 v7 v8 v9 v10 v11:Option D):DL.Env:=[some (Z4 W hs Y),some (nD n),some (nD place),some (AD picks),v4,v5,v6,v7,v8,v9,v10,v11]
def z4:DL.Env->Option Out:=(Zq 4 (eOp ixD (ZM Y6 "ways" (Za 0)) (Za 2)))
def z5t(b:Bool):DL.Env->Option Bool:=(xB (eOp (inD b) (Za 0) (Za 2)))
def z5(i:Nat)(b:Bool):DL.Env->Option Out:=(Zq i (ZF (Vc (Za 4)) (Yu 2 (ZJ 0 (ZJ 1 gsNil))) (z5t b) (Za 1) 2 [3]))
def z7w:DL.Env->Option D:=(eOp ixD (ZM Yj "weights" (Za 1)) (eOp ixD (Za 0) (eC (.int 1))))
def z7:DL.Env->Option Out:=(Zq 7 (eOp fdivW (eCB sumLD (Zb (ZF (ZH (Za 5)) (Zw 0) (λ_=>some true) z7w 1 [0]) eNil)) (Za 1)))
noncomputable def z8:DL.Env->Option Out:=(Zq 8 (XW "many" VB (Za 0) eNil))
def z9:DL.Env->Option Out:=(Zq 9 (eOp XJ (eCB Y5 (Zb (ZM Y6 "ways" (Za 0)) eNil)) (Yc (Zb (Za 6) eNil))))
def z10:DL.Env->Option Out:=(Zq 10 (eOp XJ (eCB Y5 (Zb (ZM Yj "weights" (Za 0)) eNil)) (Yc (Zb (eOp subD (eOp ixD (ZM Yj "weights" (Za 0)) (Za 2)) (Za 7)) eNil))))
def z11:DL.Env->Option Out:=(Zq 11 (eOp XJ (eCB Y5 (Zb (ZM XZ "homes" (Za 0)) eNil)) (Yc (Zb (eOp ixD (ZM XZ "homes" (Za 0)) (Za 2)) eNil))))
noncomputable def Zmd:DL.Env->Option D:=(ZB 3 J5 [] (Zb (Za 0) (Zb (Za 1) (Zb (Za 2) eNil))))
noncomputable def z12:DL.Env->Option Out:=(Zy (XV "Web" 4 V8 [] (Zb (Za 11) (Zb (Za 10) (Zb (ZF (ZH (Za 9)) (Zw 0) (λ_=>some true) Zmd 1 [2,8]) eNil)))))
theorem Zgh:f_QX=Zf z4 (Zf (z5 5 false) (Zf (z5 6 true) (Zf z7 (Zf z8 (Zf z9 (Zf (XH 9 (Za 2) (Za 5)) (Zf z10 (Zf (XH 10 (Za 2) (Za 7)) (Zf z11 z12))))))))):=rfl
def Z8(Y:List (List Way))(place:Nat)(picks:List Nat):List (Bool×List Way):=((Y.map λr=>(true,r))++[(false,Zt false picks (Y.getD place []))]).set place (false,Zt true picks (Y.getD place []))
def Yy(Y:List (List Way))(m place:Nat)(picks:List Nat):List (List Way):=(Z8 Y place picks).map λq=>ZG place m q.2
theorem Zi0{place:Nat}{picks:List Nat}{r:List Way}(hr:r.length<=150)(b:Bool)(δ:DL.Env)(h4:Za 4 δ=some (ZA r))(h3:YO 2 δ [3]=[none,none,some (AD picks)]):ZF (Vc (Za 4)) (Yu 2 (ZJ 0 (ZJ 1 gsNil))) (z5t b) (Za 1) 2 [3] δ=some (.lst ((Zt (!b) picks r).map wyD)):=by
 unfold Zt;rw [List.map_map];refine Yx (δ0:=[none,none,some (AD picks)]) (xs:=(enN 0 r).map enD) ?_ h3 (ZbQ (τ:=z5t b) (ε:=Za 1) enD (λq=>wyD q.2) (λq=>decide (q.1∈picks) == !b) (enN 0 r) λq _=>⟨[some (nD q.1),some (wyD q.2),some (AD picks)],rfl,?_,rfl⟩) ?_
 · unfold Vc
   rw [h4];show some (Yk 0 (r.map wyD))=_;rw [Zdh]
 · cases b with
   |true=>exact ZN ((Zh (x:=nD q.1) (y:=AD picks) rfl rfl).trans ((ZiV q.1 picks).trans (by cases decide (q.1∈picks)<;>rfl)))
   |false=>exact ZN ((Zh (x:=nD q.1) (y:=AD picks) rfl rfl).trans ((ZlA q.1 picks).trans (by cases decide (q.1∈picks)<;>rfl)))
 · rw [List.length_map]
   have h1:=List.length_filter_le (λq:Nat×Way=>decide (q.1∈picks) == !b) (enN 0 r);rw [Zck]at h1;omega
def shr(n:Nat)(W:List Nat)(Y:List (List Way))(place:Nat)(picks:List Nat):Nat:=Z2 W (Zt true picks (Y.getD place [])) / n
def Yl(n:Nat)(W:List Nat)(Y:List (List Way))(place:Nat)(picks:List Nat):List Nat:=(W++[W.getD place 0-shr n W Y place picks]).set place (shr n W Y place picks)
def VP(hs:List Int)(place:Nat):List Int:=hs++[hs.getD place 0]
theorem Zgi(h:Ok n m W hs Y){place:Nat}{picks:List Nat}(hp:place<m)(hle:shr n W Y place picks<=W.getD place 0):Qy [Z4 W hs Y,nD n,nD place,AD picks]=some (Z4 (Yl n W Y place picks) (VP hs place) (Yy Y m place picks)):=by
 have hm5:=h.m5;have hn1:=h.n1;have hn6:=h.n6;have hrow:=(h.row hp).2;have hrl:=h.rl _ hrow;have hl1:=Zac true picks (Y.getD place []);have hl2:=Zac false picks (Y.getD place []);obtain⟨share,hsh,esh⟩:∃share:Int,share=((shr n W Y place picks:Nat):Int)/\fdivW (.int (((Zt true picks (Y.getD place [])).map λp=>W.getD p.2 0).sum:Nat)) (nD n)=some (.int share):=⟨_,rfl,Zaw hn1 (by omega)⟩
 have hhl:place<hs.length:=by rw [h.lh];exact hp
 have hh:ixD (HD hs) (nD place)=some (.int (hs.getD place 0)):=ix_tup (by
  rw [List.getElem?_map,List.getD_eq_getElem?_getD,List.getElem?_eq_getElem hhl];rfl)
 refine YE (δ:=SE W hs Y n place picks none none none none none none none none) rfl ?_;rw [Zgh];have t4:z4 (SE W hs Y n place picks none none none none none none none none)=some (.nx (SE W hs Y n place picks (some (ZA (Y.getD place []))) none none none none none none none)):=ZK ((Zh (x:=YD Y) (y:=nD place) rfl rfl).trans (UL h hp));have t5:z5 5 false (SE W hs Y n place picks (some (ZA (Y.getD place []))) none none none none none none none)=some (.nx (SE W hs Y n place picks (some (ZA (Y.getD place []))) (some (.lst ((Zt true picks (Y.getD place [])).map wyD))) none none none none none none)):=ZK (Zi0 (place:=place) hrl false _ rfl rfl)
 have t6:z5 6 true (SE W hs Y n place picks (some (ZA (Y.getD place []))) (some (.lst ((Zt true picks (Y.getD place [])).map wyD))) none none none none none none)=some (.nx (SE W hs Y n place picks (some (ZA (Y.getD place []))) (some (.lst ((Zt true picks (Y.getD place [])).map wyD))) (some (.lst ((Zt false picks (Y.getD place [])).map wyD))) none none none none none)):=ZK (Zi0 (place:=place) hrl true _ rfl rfl)
 have t7:z7 (SE W hs Y n place picks (some (ZA (Y.getD place []))) (some (.lst ((Zt true picks (Y.getD place [])).map wyD))) (some (.lst ((Zt false picks (Y.getD place [])).map wyD))) none none none none none)=some (.nx (SE W hs Y n place picks (some (ZA (Y.getD place []))) (some (.lst ((Zt true picks (Y.getD place [])).map wyD))) (some (.lst ((Zt false picks (Y.getD place [])).map wyD))) (some (.int share)) none none none none)):=by
  refine ZK ((Zh (y:=nD n) ((ZI (Zi (Yx (δ0:=[none,some (Z4 W hs Y)]) (xs:=(Zt true picks (Y.getD place [])).map wyD) (ys:=((Zt true picks (Y.getD place [])).map λp=>W.getD p.2 0).map nD) rfl rfl ?_ ?_) nil_of)).trans (ZcI _)) rfl).trans esh)
  · rw [List.map_map]
    exact YW (ε:=z7w) wyD _ (Zt true picks (Y.getD place [])) λp hq=>⟨[some (wyD p),some (Z4 W hs Y)],rfl,(Zh (x:=WD W) (y:=nD p.2) rfl ((Zh (x:=wyD p) (y:=.int 1) rfl rfl).trans (Up p))).trans (Xg h (h.tg _ hrow p (UQ hq)))⟩
  · rw [List.length_map,List.length_map]
    omega
 have t8:z8 (SE W hs Y n place picks (some (ZA (Y.getD place []))) (some (.lst ((Zt true picks (Y.getD place [])).map wyD))) (some (.lst ((Zt false picks (Y.getD place [])).map wyD))) (some (.int share)) none none none none)=some (.nx (SE W hs Y n place picks (some (ZA (Y.getD place []))) (some (.lst ((Zt true picks (Y.getD place [])).map wyD))) (some (.lst ((Zt false picks (Y.getD place [])).map wyD))) (some (.int share)) (some (nD m)) none none none)):=ZK ((ZaJ rfl).trans (Zch h))
 have t9:z9 (SE W hs Y n place picks (some (ZA (Y.getD place []))) (some (.lst ((Zt true picks (Y.getD place [])).map wyD))) (some (.lst ((Zt false picks (Y.getD place [])).map wyD))) (some (.int share)) (some (nD m)) none none none)=some (.nx (SE W hs Y n place picks (some (ZA (Y.getD place []))) (some (.lst ((Zt true picks (Y.getD place [])).map wyD))) (some (.lst ((Zt false picks (Y.getD place [])).map wyD))) (some (.int share)) (some (nD m)) (some (.lst (Y.map ZA++[D.lst ((Zt false picks (Y.getD place [])).map wyD)]))) none none)):=
  ZK ((Zh (x:=.lst (Y.map ZA)) (y:=.lst [D.lst ((Zt false picks (Y.getD place [])).map wyD)]) ((ZI (Zi (x:=YD Y) rfl nil_of)).trans rfl) (XN (ds:=[D.lst ((Zt false picks (Y.getD place [])).map wyD)]) (Zi rfl nil_of) (by show 1<=1000;decide))).trans (Za8 (by rw [List.length_map,h.ly];show m+1<=1000000;omega)))
 have t9b:XH 9 (Za 2) (Za 5) (SE W hs Y n place picks (some (ZA (Y.getD place []))) (some (.lst ((Zt true picks (Y.getD place [])).map wyD))) (some (.lst ((Zt false picks (Y.getD place [])).map wyD))) (some (.int share)) (some (nD m)) (some (.lst (Y.map ZA++[D.lst ((Zt false picks (Y.getD place [])).map wyD)]))) none none)=some (.nx (SE W hs Y n place picks (some (ZA (Y.getD place []))) (some (.lst ((Zt true picks (Y.getD place [])).map wyD))) (some (.lst ((Zt false picks (Y.getD place [])).map wyD))) (some (.int share)) (some (nD m)) (some (.lst ((Z8 Y place picks).map kd))) none none)):=by
  refine(Zcl (j:=place) (d:=.lst ((Zt true picks (Y.getD place [])).map wyD)) rfl rfl rfl (by rw [List.length_append,List.length_map,h.ly];omega)).trans ?_
  have em:(Y.map ZA++[D.lst ((Zt false picks (Y.getD place [])).map wyD)]).set place (.lst ((Zt true picks (Y.getD place [])).map wyD))=(Z8 Y place picks).map kd:=by
   unfold Z8;rw [List.map_set,List.map_append,List.map_map];rfl
  rw [em];rfl
 have t10:z10 (SE W hs Y n place picks (some (ZA (Y.getD place []))) (some (.lst ((Zt true picks (Y.getD place [])).map wyD))) (some (.lst ((Zt false picks (Y.getD place [])).map wyD))) (some (.int share)) (some (nD m)) (some (.lst ((Z8 Y place picks).map kd))) none none)=some (.nx (SE W hs Y n place picks (some (ZA (Y.getD place []))) (some (.lst ((Zt true picks (Y.getD place [])).map wyD))) (some (.lst ((Zt false picks (Y.getD place [])).map wyD))) (some (.int share)) (some (nD m)) (some (.lst ((Z8 Y place picks).map kd))) (some (.lst (W.map nD++[D.int (((W.getD place 0:Nat):Int)-share)]))) none)):=
  ZK ((Zh (x:=.lst (W.map nD)) (y:=.lst [D.int (((W.getD place 0:Nat):Int)-share)]) ((ZI (Zi (x:=WD W) rfl nil_of)).trans rfl) (XN (ds:=[D.int (((W.getD place 0:Nat):Int)-share)]) (Zi ((Zh (x:=nD (W.getD place 0)) (y:=.int share) ((Zh (x:=WD W) (y:=nD place) rfl rfl).trans (Xg h hp)) rfl).trans rfl) nil_of) (by show 1<=1000;decide))).trans (Za8 (by rw [List.length_map,h.lw];show m+1<=1000000;omega)))
 have t10b:XH 10 (Za 2) (Za 7) (SE W hs Y n place picks (some (ZA (Y.getD place []))) (some (.lst ((Zt true picks (Y.getD place [])).map wyD))) (some (.lst ((Zt false picks (Y.getD place [])).map wyD))) (some (.int share)) (some (nD m)) (some (.lst ((Z8 Y place picks).map kd))) (some (.lst (W.map nD++[D.int (((W.getD place 0:Nat):Int)-share)]))) none)=some (.nx (SE W hs Y n place picks (some (ZA (Y.getD place []))) (some (.lst ((Zt true picks (Y.getD place [])).map wyD))) (some (.lst ((Zt false picks (Y.getD place [])).map wyD))) (some (.int share)) (some (nD m)) (some (.lst ((Z8 Y place picks).map kd))) (some (.lst ((W.map nD++[D.int (((W.getD place 0:Nat):Int)-share)]).set place (.int share)))) none)):=
  Zcl (j:=place) (d:=.int share) rfl rfl rfl (by rw [List.length_append,List.length_map,h.lw];omega)
 have t11:z11 (SE W hs Y n place picks (some (ZA (Y.getD place []))) (some (.lst ((Zt true picks (Y.getD place [])).map wyD))) (some (.lst ((Zt false picks (Y.getD place [])).map wyD))) (some (.int share)) (some (nD m)) (some (.lst ((Z8 Y place picks).map kd))) (some (.lst ((W.map nD++[D.int (((W.getD place 0:Nat):Int)-share)]).set place (.int share)))) none)=some (.nx (SE W hs Y n place picks (some (ZA (Y.getD place []))) (some (.lst ((Zt true picks (Y.getD place [])).map wyD))) (some (.lst ((Zt false picks (Y.getD place [])).map wyD))) (some (.int share)) (some (nD m)) (some (.lst ((Z8 Y place picks).map kd))) (some (.lst ((W.map nD++[D.int (((W.getD place 0:Nat):Int)-share)]).set place (.int share)))) (some (.lst ((hs++[hs.getD place 0]).map D.int))))):=by
  refine ZK ((Zh (x:=.lst (hs.map D.int)) (y:=.lst [D.int (hs.getD place 0)]) ((ZI (Zi (x:=HD hs) rfl nil_of)).trans rfl) (XN (ds:=[D.int (hs.getD place 0)]) (Zi ((Zh (x:=HD hs) (y:=nD place) rfl rfl).trans hh) nil_of) (by show 1<=1000;decide))).trans ((Za8 (by rw [List.length_map,h.lh];show m+1<=1000000;omega)).trans ?_));rw [List.map_append];rfl
 have hkl:∀q∈Z8 Y place picks,q.2.length<=300:=λq hq=>by
  unfold Z8 at hq;rcases List.mem_or_eq_of_mem_set hq with z|z
  · rcases List.mem_append.mp z with z|z
    · obtain⟨r,hr,rfl⟩:=List.mem_map.mp z
      exact Nat.le_trans (h.rl r hr) (by decide)
    · rw [List.mem_singleton.mp z]
      show(Zt false picks (Y.getD place [])).length<=300;omega
  · rw [z]
    show(Zt true picks (Y.getD place [])).length<=300;omega
 have hkn:(Z8 Y place picks).length=m+1:=by
  unfold Z8;rw [List.length_set,List.length_append,List.length_map,h.ly];rfl
 refine(Zu t4).trans ((Zu t5).trans ((Zu t6).trans ((Zu t7).trans ((Zu t8).trans ((Zu t9).trans ((Zu t9b).trans ((Zu t10).trans ((Zu t10b).trans ((Zu t11).trans (Yn ?_))))))))));refine(JX (ds:=[.lst ((hs++[hs.getD place 0]).map D.int),.lst ((W.map nD++[D.int (((W.getD place 0:Nat):Int)-share)]).set place (.int share)),.lst ((Z8 Y place picks).map (dD place m))]) (Zi rfl (Zi rfl (Zi (Yx (δ0:=[none,some (nD place),some (nD m)]) (xs:=(Z8 Y place picks).map kd) rfl rfl (YW (ε:=Zmd) kd (dD place m) (Z8 Y place picks) λq hq=>⟨[some (kd q),some (nD place),some (nD m)],rfl,(Ye (n:=3) (Zi rfl (Zi rfl (Zi rfl nil_of))) rfl).trans (ZdO (hkl q hq))⟩) (by rw [List.length_map,hkn];omega)) nil_of))) rfl).trans ?_
 refine(ZjW (Y:=Yy Y m place picks) ?_ (by unfold Yy;rw [List.length_map,hkn];omega)).trans ?_
 case refine_2=>
  have ew:(W.map nD++[D.int (((W.getD place 0:Nat):Int)-share)]).set place (.int share)=(Yl n W Y place picks).map nD:=by
   subst hsh;unfold Yl;rw [List.map_set,List.map_append,show(((W.getD place 0:Nat):Int)-(shr n W Y place picks:Nat))=((W.getD place 0-shr n W Y place picks:Nat):Int) by omega];rfl
  rw [ew];rfl
 unfold Yy;rw [List.map_map];exact YW (ε:=kE) (dD place m) (λq=>ZA (ZG place m q.2)) (Z8 Y place picks) λq hq=>⟨[some (dD place m q)],rfl,(Ye (n:=1) (Zi rfl nil_of) rfl).trans (ZjV (hkl q hq))⟩
end
end K39
namespace K39
open DL L2
section
variable{n m:Nat}{W:List Nat}{hs:List Int}{Y:List (List Way)}
theorem mem_dblR{place new:Nat}{r:List Way}{p:Way}:p∈ZG place new r ↔ p∈r\/∃q∈r,q.2=place/\p=(q.1,new):=by
 unfold ZG;rw [List.mem_flatMap];constructor
 · rintro⟨q,hq,hp⟩
   unfold dbl at hp
   by_cases z:q.2=place
   · rw [if_pos z]at hp
     rcases List.mem_cons.mp hp with w|w
     · exact .inl (w▸hq)
     · exact .inr ⟨q,hq,z,List.mem_singleton.mp w⟩
   · rw [if_neg z]at hp
     exact .inl (List.mem_singleton.mp hp▸hq)
 · rintro(hp|⟨q,hq,z,rfl⟩)
   · refine⟨p,hp,?_⟩
     unfold dbl
     by_cases z:p.2=place
     · rw [if_pos z];exact List.mem_cons_self
     · rw [if_neg z];exact List.mem_singleton.mpr rfl
   · refine⟨q,hq,?_⟩
     unfold dbl;rw [if_pos z];exact List.mem_cons_of_mem _ (List.mem_singleton.mpr rfl)
theorem Zdi{place new:Nat}{r s:List Way}(h:∀p∈r,p∈s){p:Way}(hp:p∈ZG place new r):p∈ZG place new s:=by
 rcases mem_dblR.mp hp with z|⟨q,hq,z⟩
 · exact mem_dblR.mpr (.inl (h p z))
 · exact mem_dblR.mpr (.inr ⟨q,h q hq,z⟩)
variable{place:Nat}{picks:List Nat}
theorem ZgU(h:Ok n m W hs Y):(Yy Y m place picks).length=m+1:=by
 unfold Yy Z8;rw [List.length_map,List.length_set,List.length_append,List.length_map,h.ly];rfl
theorem Zay(h:Ok n m W hs Y)(hp:place<m):(Yy Y m place picks).getD place []=ZG place m (Zt true picks (Y.getD place [])):=by
 unfold Yy Z8;rw [List.getD_eq_getElem?_getD,List.getElem?_map,List.getElem?_set_self (by rw [List.length_append,List.length_map,h.ly];omega)];rfl
theorem Zd9(h:Ok n m W hs Y)(hp:place<m):(Yy Y m place picks).getD m []=ZG place m (Zt false picks (Y.getD place [])):=by
 unfold Yy Z8;have hly:=h.ly;rw [List.getD_eq_getElem?_getD,List.getElem?_map,List.getElem?_set_ne (by omega),List.getElem?_append_right (by rw [List.length_map];omega),List.length_map,hly,Nat.sub_self];rfl
theorem Zhg(h:Ok n m W hs Y){x:Nat}(hx:x<m)(hn:x≠place):(Yy Y m place picks).getD x []=ZG place m (Y.getD x []):=by
 unfold Yy Z8;have hly:=h.ly;rw [List.getD_eq_getElem?_getD,List.getElem?_map,List.getElem?_set_ne (λz=>hn z.symm),List.getElem?_append_left (by rw [List.length_map];omega),List.getElem?_map,(h.row hx).1];rfl
theorem ZjX(h:Ok n m W hs Y)(hp:place<m){x:Nat}(hx:x<m+1){p:Way}(hq:p∈(Yy Y m place picks).getD x []):∃y<m,(y=x\/(x=m/\y=place))/\p∈ZG place m (Y.getD y []):=by
 by_cases e1:x=place
 · subst e1
   rw [Zay h hp]at hq;exact⟨x,hp,.inl rfl,Zdi (λp=>UQ) hq⟩
 · by_cases e2:x=m
   · subst e2
     rw [Zd9 h hp]at hq;exact⟨place,hp,.inr ⟨rfl,rfl⟩,Zdi (λp=>UQ) hq⟩
   · have hx2:x<m:=by omega
     rw [Zhg h hx2 e1]at hq;exact⟨x,hx2,.inl rfl,hq⟩
theorem ZlI(h:Ok n m W hs Y)(hp:place<m):∀r∈Yy Y m place picks,∀p∈r,p.2<m+1:=λr hr p hq=>by
 obtain⟨i,hi,e⟩:=List.getElem_of_mem hr
 have e2:(Yy Y m place picks).getD i []=r:=by
  rw [List.getD_eq_getElem?_getD,List.getElem?_eq_getElem hi,e];rfl
 rw [ZgU h]at hi;rw [<-e2]at hq;obtain⟨y,hy,_,hz⟩:=ZjX h hp hi hq;rcases mem_dblR.mp hz with z|⟨q,_,_,rfl⟩
 · have:=h.tg _ (h.row hy).2 p z
   omega
 · exact Nat.lt_succ_self m
end
end K39
namespace K39
open DL L2
section
variable{n m:Nat}{W:List Nat}{hs:List Int}{Y:List (List Way)}{place:Nat}{picks:List Nat}
theorem Zcm:∀(s:Nat)(r:List Way),enN s r=(List.range r.length).map λk=>(s+k,r.getD k ([],0))
 |s,[]=>rfl
 |s,p::r=>by
  rw [List.length_cons,List.range_succ_eq_map,List.map_cons,List.map_map];show(s,p)::enN (s+1) r=_;rw [Zcm (s+1) r]
  congr 1
  apply List.map_congr_left;intro k _;show(s+1+k,r.getD k ([],0))=(s+(k+1),(p::r).getD (k+1) ([],0))
  rw [Nat.add_assoc,Nat.add_comm 1 k];rfl
theorem Zcn:∀(k:Nat)(r:List Way),(enN k r).map Prod.snd=r
 |_,[]=>rfl
 |k,p::r=>by
  show p::(enN (k+1) r).map Prod.snd=_;rw [Zcn]
theorem Jc(b:Bool)(picks:List Nat)(r:List Way):(Zt b picks r).Sublist r:=by
 have:=(List.filter_sublist (p:=λq:Nat×Way=>decide (q.1∈picks) == b) (l:=enN 0 r)).map Prod.snd
 rwa [Zcn]at this
theorem Zdj{α:Type}(f:α->Nat)(p:α->Bool):∀l:List α,((l.filter λq=>p q == true).map f).sum+((l.filter λq=>p q == false).map f).sum=(l.map f).sum
 | []=>rfl
 |a::l=>by
  have ih:=Zdj f p l;rw [List.map_cons,List.sum_cons];cases hp:p a with
  |true=>
   rw [List.filter_cons_of_pos (by simp [hp]),List.filter_cons_of_neg (by simp [hp]),List.map_cons,List.sum_cons];omega
  |false=>
   rw [List.filter_cons_of_neg (by simp [hp]),List.filter_cons_of_pos (by simp [hp]),List.map_cons,List.sum_cons];omega
theorem Zfw(W picks:List Nat)(r:List Way):Z2 W (Zt true picks r)+Z2 W (Zt false picks r)=Z2 W r:=by
 unfold Z2 Zt;rw [List.map_map,List.map_map];have:=Zdj (λq:Nat×Way=>W.getD q.2.2 0) (λq=>decide (q.1∈picks)) (enN 0 r)
 have e:(enN 0 r).map (λq:Nat×Way=>W.getD q.2.2 0)=r.map λp=>W.getD p.2 0:=by
  conv=>rhs;rw [<-Zcn 0 r,List.map_map]
  rfl
 rw [e]at this;exact this
theorem ZdP{r:List Way}(hi:picks.Pairwise (· < ·))(hl:∀k∈picks,k<r.length):Z2 W (Zt true picks r)=(picks.map (wOf W r)).sum:=by
 unfold Z2 Zt;rw [List.map_map,Zcm,List.filter_map,List.map_map]
 have e:(List.range r.length).filter ((λq:Nat×Way=>decide (q.1∈picks) == true)∘λk=>(0+k,r.getD k ([],0)))=picks:=by
  refine Zd8 (List.Pairwise.filter _ List.pairwise_lt_range) hi λt => ?_
  rw [List.mem_filter,List.mem_range];show _/\(decide (0+t∈picks) == true)=true ↔ _;rw [Nat.zero_add];exact⟨λz=>by simpa using z.2,λz=>⟨hl t z,by simpa using z⟩⟩
 rw [e];rfl
theorem Zgj(W:List Nat)(a b:List Way):Z2 W (a++b)=Z2 W a+Z2 W b:=by
 unfold Z2;rw [List.map_append,List.sum_append]
theorem Zgk{a b:List Way}(h:a.Sublist b):Z2 W a<=Z2 W b:=by
 unfold Z2
 induction h with
 |slnil=>exact Nat.le_refl _
 |cons p _ ih=>rw [List.map_cons,List.sum_cons];omega
 |cons_cons p _ ih=>rw [List.map_cons,List.map_cons,List.sum_cons,List.sum_cons];omega
theorem ZfA{M:Nat}(G:Good n M W (Y.getD place []) picks):n*shr n W Y place picks=Z2 W (Zt true picks (Y.getD place []))/\1<=shr n W Y place picks/\shr n W Y place picks<M:=by
 have e:=ZdP (W:=W) G.inc G.lt;have h0:=G.even;have h1:=G.pos;have h2:=G.less;rw [<-e]at h0 h1 h2;have h3:n*shr n W Y place picks=Z2 W (Zt true picks (Y.getD place [])):=Nat.mul_div_cancel' (Nat.dvd_of_mod_eq_zero h0);refine⟨h3,Nat.pos_of_ne_zero λz => ?_,?_⟩
 · rw [z,Nat.mul_zero]at h3
   omega
 · rw [<-h3]at h2
   exact Nat.lt_of_mul_lt_mul_left h2
theorem ZjY(h:Ok n m W hs Y):(Yl n W Y place picks).length=m+1:=by
 unfold Yl;rw [List.length_set,List.length_append,h.lw];rfl
theorem Zaz(h:Ok n m W hs Y)(hp:place<m):(Yl n W Y place picks).getD place 0=shr n W Y place picks:=by
 unfold Yl;rw [List.getD_eq_getElem?_getD,List.getElem?_set_self (by rw [List.length_append,h.lw];omega)];rfl
theorem Zea(h:Ok n m W hs Y)(hp:place<m):(Yl n W Y place picks).getD m 0=W.getD place 0-shr n W Y place picks:=by
 unfold Yl;have hlw:=h.lw;rw [List.getD_eq_getElem?_getD,List.getElem?_set_ne (by omega),List.getElem?_append_right (by omega),hlw,Nat.sub_self];rfl
theorem Zhh(h:Ok n m W hs Y){x:Nat}(hx:x<m)(hn:x≠place):(Yl n W Y place picks).getD x 0=W.getD x 0:=by
 unfold Yl;have hlw:=h.lw;rw [List.getD_eq_getElem?_getD,List.getElem?_set_ne (λz=>hn z.symm),List.getElem?_append_left (by omega),<-List.getD_eq_getElem?_getD]
theorem ZeL:∀(l:List Nat)(i a:Nat),i<l.length->(l.set i a).sum+l.getD i 0=l.sum+a
 |b::l,0,a,_=>by
  show(a::l).sum+b=(b::l).sum+a;rw [List.sum_cons,List.sum_cons];omega
 |b::l,i+1,a,h=>by
  have ih:=ZeL l i a (by simpa using h);show(b::l.set i a).sum+l.getD i 0=(b::l).sum+a;rw [List.sum_cons,List.sum_cons];omega
theorem ZgV(h:Ok n m W hs Y)(hp:place<m)(hle:shr n W Y place picks<=W.getD place 0):(Yl n W Y place picks).sum=W.sum:=by
 have hlw:=h.lw;have:=ZeL (W++[W.getD place 0-shr n W Y place picks]) place (shr n W Y place picks) (by rw [List.length_append];omega)
 have e:(W++[W.getD place 0-shr n W Y place picks]).getD place 0=W.getD place 0:=by
  rw [List.getD_eq_getElem?_getD,List.getElem?_append_left (by omega),<-List.getD_eq_getElem?_getD]
 rw [e,List.sum_append,List.sum_singleton]at this;unfold Yl;omega
theorem Jd(h:Ok n m W hs Y)(hp:place<m)(hle:shr n W Y place picks<=W.getD place 0):∀{r:List Way},(∀p∈r,p.2<m)->Z2 (Yl n W Y place picks) (ZG place m r)=Z2 W r
 | [],_=>rfl
 |p::r,hr=>by
  have ih:=Jd h hp hle (r:=r) λq hq=>hr q (List.mem_cons_of_mem _ hq)
  have e:ZG place m (p::r)=dbl place m p++ZG place m r:=by
   unfold ZG;rw [List.flatMap_cons]
  rw [e,Zgj,ih,show Z2 W (p::r)=W.getD p.2 0+Z2 W r by unfold Z2;rw [List.map_cons,List.sum_cons]]
  congr 1
  unfold dbl
  by_cases z:p.2=place
  · rw [if_pos z,z]
    show(Yl n W Y place picks).getD p.2 0+((Yl n W Y place picks).getD m 0+0)=_;rw [z,Zaz h hp,Zea h hp];omega
  · rw [if_neg z]
    show(Yl n W Y place picks).getD p.2 0+0=_;rw [Zhh h (hr p List.mem_cons_self) z,Nat.add_zero]
theorem ZbR:∀{r:List Way},(∀p∈r,p.2<m)->r.Nodup->(ZG place m r).Nodup
 | [],_,_=>List.nodup_nil
 |p::r,hr,hn=>by
  rw [List.nodup_cons]at hn;have ih:=ZbR (r:=r) (λq hq=>hr q (List.mem_cons_of_mem _ hq)) hn.2;have hp:=hr p List.mem_cons_self
  have e:ZG place m (p::r)=dbl place m p++ZG place m r:=by
   unfold ZG;rw [List.flatMap_cons]
  have far:∀x,x∈dbl place m p->x=p\/(p.2=place/\x=(p.1,m)):=λx hx=>by
   unfold dbl at hx
   by_cases z:p.2=place
   · rw [if_pos z]at hx
     rcases List.mem_cons.mp hx with w|w
     · exact .inl w
     · exact .inr ⟨z,List.mem_singleton.mp w⟩
   · rw [if_neg z]at hx
     exact .inl (List.mem_singleton.mp hx)
  rw [e,List.nodup_append];refine⟨?_,ih,λx hx y hy exy => ?_⟩
  · unfold dbl
    by_cases z:p.2=place
    · rw [if_pos z,List.nodup_cons]
      refine⟨λw => ?_,by simp⟩;have:=congrArg Prod.snd (List.mem_singleton.mp w);have:p.2=m:=this;omega
    · rw [if_neg z];simp
  · subst exy
    rcases far x hx with rfl|⟨z,rfl⟩
    · rcases mem_dblR.mp hy with w|⟨q,hq,_,w⟩
      · exact hn.1 w
      · rw [w]at hp
        exact Nat.lt_irrefl _ hp
    · rcases mem_dblR.mp hy with w|⟨q,hq,w1,w2⟩
      · have:=hr _ (List.mem_cons_of_mem _ w)
        exact Nat.lt_irrefl _ this
      · have e1:p.1=q.1:=(Prod.mk.inj w2).1
        have:p=q:=Prod.ext e1 (z.trans w1.symm);exact hn.1 (this▸hq)
theorem Zco(h:Ok n m W hs Y)(hp:place<m):∀r∈Yy Y m place picks,∃r0 y,y∈Y/\r0.Sublist y/\r=ZG place m r0:=λr hr=>by
 obtain⟨q,hq,rfl⟩:=List.mem_map.mp hr;have hy:=(h.row hp).2;unfold Z8 at hq;rcases List.mem_or_eq_of_mem_set hq with z|z
 · rcases List.mem_append.mp z with z|z
   · obtain⟨y,hy,rfl⟩:=List.mem_map.mp z
     exact⟨y,y,hy,List.Sublist.refl _,rfl⟩
   · rw [List.mem_singleton.mp z]
     exact⟨_,_,hy,Jc _ _ _,rfl⟩
 · rw [z]
   exact⟨_,_,hy,Jc _ _ _,rfl⟩
theorem Zgl(h:Ok n m W hs Y)(hp:place<m)(h1:∃p,p∈Zt true picks (Y.getD place []))(h2:∃p,p∈Zt false picks (Y.getD place []))(S:Nat->Prop)(hc:∀k<m+1,S k->∀p∈(Yy Y m place picks).getD k [],S p.2)(a:Nat)(ha:a<m+1)(h0:S a)(b:Nat)(hb:b<m+1):S b:=by
 let F:Nat->Prop:=λx=>S x/\(x=place->S m)
 have dp:∀{r:List Way}{p:Way},p∈r->(∀q∈ZG place m r,S q.2)->F p.2:=λ{r p} hq hS=>⟨hS p (mem_dblR.mpr (.inl hq)),λe=>hS (p.1,m) (mem_dblR.mpr (.inr ⟨p,hq,e,rfl⟩))⟩
 have rp:S place->∀q∈ZG place m (Zt true picks (Y.getD place [])),S q.2:=λz q hq=>hc place (by omega) z q (by rw [Zay h hp];exact hq)
 have rn:S m->∀q∈ZG place m (Zt false picks (Y.getD place [])),S q.2:=λz q hq=>hc m (by omega) z q (by rw [Zd9 h hp];exact hq)
 have closed:∀k<m,F k->∀p∈Y.getD k [],F p.2:=λk hk hF p hq=>by
  by_cases e:k=place
  · subst e
    rcases ZbP (picks:=picks) hq with z|z
    · exact dp z (rp hF.1)
    · exact dp z (rn (hF.2 rfl))
  · exact dp hq λq hz=>hc k (by omega) hF.1 q (by rw [Zhg h hk e];exact hz)
 have start:∃x<m,F x:=by
  by_cases e:a=place
  · obtain⟨p,hq⟩:=h1
    exact⟨p.2,h.tg _ (h.row hp).2 p (UQ hq),dp hq (rp (e▸h0))⟩
  · by_cases e2:a=m
    · obtain⟨p,hq⟩:=h2
      exact⟨p.2,h.tg _ (h.row hp).2 p (UQ hq),dp hq (rn (e2▸h0))⟩
    · exact⟨a,by omega,h0,λz=>absurd z e⟩
 obtain⟨x,hx,hF⟩:=start;have all:=h.st F closed x hx hF
 by_cases e:b=m
 · rw [e];exact(all place hp).2 rfl
 · exact(all b (by omega)).1
theorem Zdk(h:Ok n m W hs Y)(hp:place<m){M:Nat}(hM:W.getD place 0=M)(G:Good n M W (Y.getD place []) picks):Ok n (m+1) (Yl n W Y place picks) (VP hs place) (Yy Y m place picks):=by
 obtain⟨s1,s2,s3⟩:=ZfA G;have hle:shr n W Y place picks<=W.getD place 0:=by omega
 have hrow:=(h.row hp).2;have hn1:=h.n1;have hw:=h.w1 _ (h.wt hp).2;have bp:=Zfw W picks (Y.getD place []);have hbr:n*W.getD place 0<=Z2 W (Y.getD place []):=h.br place hp;have htg:=h.tg;have subTg:∀{r0 y:List Way},y∈Y->r0.Sublist y->∀p∈r0,p.2<m:=λhy hs p hq=>htg _ hy p (hs.subset hq)
 have hrest:n*(W.getD place 0-shr n W Y place picks)<=Z2 W (Zt false picks (Y.getD place [])):=by
  rw [Nat.mul_sub];omega
 have hpos:1<=n*(W.getD place 0-shr n W Y place picks):=Nat.mul_pos hn1 (by omega)
 have Jg:∀{r:List Way},1<=Z2 W r->∃p,p∈r:=λ{r} z=>by
  cases r with
  |nil=>exact absurd (show 1<=0 from z) (by decide)
  |cons p r=>exact⟨p,List.mem_cons_self⟩
 have hpos2:1<=n*shr n W Y place picks:=Nat.mul_pos hn1 s2;refine⟨by omega,hn1,h.n6,ZjY h,?_,ZgU h,λw hq => ?_,?_,λr hr => ?_,ZlI h hp,λr hr p hq => ?_,λr hr => ?_,Zgl h hp (Jg (by omega)) (Jg (by omega)),λk hk => ?_⟩
 · unfold VP
   rw [List.length_append,h.lh];rfl
 · unfold Yl at hq
   rcases List.mem_or_eq_of_mem_set hq with z|z
   · rcases List.mem_append.mp z with z|z
     · exact h.w1 w z
     · rw [List.mem_singleton.mp z]
       omega
   · omega
 · rw [ZgV h hp hle];exact h.sw
 · obtain⟨r0,y,hy,hs,rfl⟩:=Zco h hp r hr
   have e:Z2 (Yl n W Y place picks) (ZG place m r0)=Z2 W r0:=Jd h hp hle (subTg hy hs);have h3:=Zgk (W:=W) hs;have h4:Z2 W y<=150:=h.rs y hy;show Z2 (Yl n W Y place picks) (ZG place m r0)<=150;omega
 · obtain⟨r0,y,hy,hs,rfl⟩:=Zco h hp r hr
   rcases mem_dblR.mp hq with z|⟨q,hz,_,rfl⟩
   · exact h.cd y hy p (hs.subset z)
   · exact h.cd y hy q (hs.subset hz)
 · obtain⟨r0,y,hy,hs,rfl⟩:=Zco h hp r hr
   exact ZbR (subTg hy hs) ((h.nd y hy).sublist hs)
 · show n*_<=Z2 (Yl n W Y place picks) _
   by_cases e:k=place
   · subst e
     rw [Zaz h hp,Zay h hp,Jd h hp hle (subTg hrow (Jc _ _ _)),s1];exact Nat.le_refl _
   · by_cases e2:k=m
     · subst e2
       rw [Zea h hp,Zd9 h hp,Jd h hp hle (subTg hrow (Jc _ _ _))];exact hrest
     · have hk2:k<m:=by omega
       rw [Zhh h hk2 e,Zhg h hk2 e,Jd h hp hle (htg _ (h.row hk2).2)];exact h.br k hk2
end
end K39
namespace K39
open DL L2
abbrev Wb:=List Nat×List Int×List (List Way)
def wb(A:Wb):D:=Z4 A.1 A.2.1 A.2.2
structure Stp(n m:Nat)(A B:Wb)(M place:Nat)(picks:List Nat):Prop where
 ok:Ok n m A.1 A.2.1 A.2.2
 pm:place<m
 pw:A.1.getD place 0=M
 mx:maxQD [WD A.1]=some (nD M)
 al:∃L,minQD [WD A.1]=some (nD L)/\L≠M
 ls:∃p∈A.2.2.getD place [],A.1.getD p.2 0<M
 gd:Good n M A.1 (A.2.2.getD place []) picks
 eq:B=(Yl n A.1 A.2.2 place picks,VP A.2.1 place,Yy A.2.2 m place picks)
def Zme(n:Nat)(A B:Wb):Prop:=∃m M place picks,Stp n m A B M place picks
theorem Stp.Ok{n m M place:Nat}{A B:Wb}{picks:List Nat}(s:Stp n m A B M place picks):Ok n (m+1) B.1 B.2.1 B.2.2:=by
 rw [s.eq];exact Zdk s.ok s.pm s.pw s.gd
inductive Run(n:Nat)(A:Wb):List Wb->Wb->Prop
 |one:Run n A [] A
 |snoc {Us:List Wb} {B C:Wb} (r:Run n A Us B) (s:Zme n B C):Run n A (Us++[B]) C
abbrev T0:Wb:=([],[],[])
theorem ZaL{α:Type}(l:List α)(x d:α){i:Nat}(h:i<l.length):(l++[x]).getD i d=l.getD i d:=by
 rw [List.getD_eq_getElem?_getD,List.getElem?_append_left h,<-List.getD_eq_getElem?_getD]
theorem ZaM{α:Type}(l:List α)(x d:α):(l++[x]).getD l.length d=x:=by
 rw [List.getD_eq_getElem?_getD,List.getElem?_append_right (Nat.le_refl _),Nat.sub_self];rfl
theorem Run.zero{n:Nat}{A B:Wb}{Us:List Wb}(r:Run n A Us B):(Us++[B]).getD 0 T0=A:=by
 induction r with
 |one=>rfl
 |snoc r s ih=>rw [ZaL _ _ _ (by rw [List.length_append];exact Nat.lt_of_lt_of_le (by decide) (Nat.le_add_left 1 _))];exact ih
theorem Run.at{n:Nat}{A B:Wb}{Us:List Wb}(r:Run n A Us B):∀i<Us.length,Zme n ((Us++[B]).getD i T0) ((Us++[B]).getD (i+1) T0):=by
 induction r with
 |one=>intro i hi;cases hi
 |snoc r s ih=>
  rename_i Us B C;intro i hi;rw [List.length_append,List.length_singleton]at hi;rw [ZaL _ _ _ (by rw [List.length_append];exact hi)]
  by_cases e:i=Us.length
  · subst e
    rw [ZaM,show Us.length+1=(Us++[B]).length by rw [List.length_append];rfl,ZaM];exact s
  · rw [ZaL _ C _ (by rw [List.length_append,List.length_singleton];omega)]
    exact ih i (by omega)
theorem Ok.m_eq{n m m':Nat}{W:List Nat}{hs:List Int}{Y:List (List Way)}(h:Ok n m W hs Y)(h':Ok n m' W hs Y):m=m':=h.lw.symm.trans h'.lw
theorem Run.inv{n m:Nat}{A B:Wb}{Us:List Wb}(h:Ok n m A.1 A.2.1 A.2.2)(r:Run n A Us B):Ok n (m+Us.length) B.1 B.2.1 B.2.2/\B.1.sum=A.1.sum:=by
 induction r with
 |one=>exact⟨h,rfl⟩
 |snoc r s ih=>
  obtain⟨m',M,place,picks,s⟩:=s;have e:=s.ok.m_eq ih.1;subst e;refine⟨?_,?_⟩
  · rw [List.length_append,List.length_singleton,<-Nat.add_assoc]
    exact s.Ok
  · rw [s.eq,<-ih.2]
    have h1:=(ZfA s.gd).2.2;exact ZgV s.ok s.pm (by rw [s.pw];exact Nat.le_of_lt h1)
section
variable{n m:Nat}{W:List Nat}{hs:List Int}{Y:List (List Way)}
theorem Zdl(x:D):∀k:Nat,(List.replicate k [x]).flatten=List.replicate k x
 |0=>rfl
 |k+1=>by
  rw [List.replicate_succ,List.flatten_cons,Zdl x k,List.replicate_succ];rfl
abbrev YK(m:Nat):List Nat:=List.replicate m 1
theorem Zfx(h:Ok n m W hs Y):J6 [Z4 W hs Y]=some (Z4 (YK m) hs Y):=by
 have hm5:=h.m5;refine YE (δ:=[some (Z4 W hs Y)]) rfl (Yn ?_)
 have e1:eOp JI (Yc (Zb (eC (.int 1)) eNil)) (XW "many" VB (Za 0) eNil) [some (Z4 W hs Y)]=some (.lst ((YK m).map nD)):=by
  refine(Zh (x:=.lst [.int 1]) (y:=nD m) (XN (ds:=[.int 1]) rfl (by show 1<=1000;decide)) ((ZaJ rfl).trans (Zch h))).trans ?_;refine(ZhZ (a:=[.int 1]) (n:=m) (by show 1*m<=100000;omega) (by omega)).trans ?_;rw [Zdl,List.map_replicate];rfl
 refine(JX (ds:=[HD hs,.lst ((YK m).map nD),YD Y]) (Zi rfl (Zi e1 (Zi rfl nil_of))) rfl).trans ?_;exact Zbi ZA (λr hr=>ZcH r (Nat.le_trans (h.rl r hr) (by decide))) _ _ _ rfl rfl (λ_=>rfl) (by rw [h.ly];omega)
theorem Zbn{M:Nat}:∀{r:List Way},(∀p∈r,W.getD p.2 0=M)->(r.map λp=>W.getD p.2 0).sum=r.length*M
 | [],_=>(Nat.zero_mul _).symm
 |p::r,h=>by
  rw [List.map_cons,List.sum_cons,List.length_cons,Nat.succ_mul,Zbn λq hq=>h q (List.mem_cons_of_mem _ hq),h p List.mem_cons_self,Nat.add_comm]
theorem Zap(h:Ok n m W hs Y){M:Nat}(ha:∀w∈W,w=M):∀r∈Y,n<=r.length:=λr hr=>by
 obtain⟨i,hi,e⟩:=List.getElem_of_mem hr;have hi2:i<m:=by rw [<-h.ly];exact hi
 have e2:Y.getD i []=r:=by
  rw [List.getD_eq_getElem?_getD,List.getElem?_eq_getElem hi,e];rfl
 have h1:=h.br i hi2;rw [e2,Zbn λp hp=>ha _ (h.wt (h.tg r hr p hp)).2,ha _ (h.wt hi2).2]at h1;have h2:=(h.w1 _ (h.wt hi2).2).1;rw [ha _ (h.wt hi2).2]at h2;exact Nat.le_of_mul_le_mul_right h1 h2
theorem ZeM{k:Nat}(hk:k<m):(YK m).getD k 0=1:=by
 rw [List.getD_eq_getElem?_getD,List.getElem?_replicate,if_pos hk];rfl
theorem Zin(h:Ok n m W hs Y){M:Nat}(ha:∀w∈W,w=M):Ok n m (YK m) hs Y:=by
 have hb:∀r∈Y,(r.map λp=>(YK m).getD p.2 0).sum=r.length:=λr hr=>by
  rw [Zbn (M:=1) λp hp=>ZeM (h.tg r hr p hp),Nat.mul_one]
 refine⟨h.m1,h.n1,h.n6,List.length_replicate,h.lh,h.ly,λw hw => ?_,?_,λr hr => ?_,h.tg,h.cd,h.nd,h.st,λk hk => ?_⟩
 · rw [List.eq_of_mem_replicate hw];decide
 · rw [List.sum_replicate_nat,Nat.mul_one];exact h.m5
 · rw [hb r hr];exact h.rl r hr
 · rw [hb _ (h.row hk).2,ZeM hk,Nat.mul_one]
   exact Zap h ha _ (h.row hk).2
end
noncomputable def fT:DL.Env->Option Bool:=(xB (V1 (Za 3)))
noncomputable def fL:DL.Env->Option D:=(eOp ixD (Za 2) (eUn Vr (eC (.int 1))))
noncomputable def fB:DL.Env->Option Out:=(Zf (YA 2 (ZB 4 Qy [] (Zb fL (Zb (Za 1) (Zb (eOp ixD (Za 3) (eC (.int 0))) (Zb (eOp ixD (Za 3) (eC (.int 1))) eNil)))))) (Zq 3 (ZB 2 X0 [] (Zb fL (Zb (Za 1) eNil)))))
noncomputable def fI:DL.Env->Option Out:=(sIf (xB (eOp (Z6 λi j=>decide (j<i)) (eOp ixD (ZM Yj "weights" fL) (eC (.int 0))) (eC (.int 1)))) (YA 2 (ZB 1 J6 [] (Zb fL eNil))) sNext)
theorem ZcE:f_QT=Zf (Zq 2 (Yc (Zb (Za 0) eNil))) (Zf (Zq 3 (ZB 2 X0 [] (Zb (Za 0) (Zb (Za 1) eNil)))) (Zf (Xm fT fB) (Zf fI (Zy (Za 2))))):=rfl
abbrev FE(n:Nat)(A:Wb)(Ts:List Wb)(c:D):DL.Env:=[some (wb A),some (nD n),some (.lst (Ts.map wb)),some c]
theorem ZfB(n:Nat)(A B:Wb)(Us:List Wb)(c:D):fL (FE n A (Us++[B]) c)=some (wb B):=by
 refine(Zh (x:=.lst ((Us++[B]).map wb)) (y:=.int (-1)) rfl rfl).trans ?_;rw [List.map_append];exact ZcO _ _
def fM:DL.Env->Nat
 | [_,_,some (.lst xs),_]=>30-xs.length
 |_=>0
theorem Zi1(n:Nat)(A:Wb)(Ts:List Wb)(c:D):fM (FE n A Ts c)=30-Ts.length:=by
 show 30-(Ts.map wb).length=_;rw [List.length_map]
theorem ZaN{n m:Nat}{B:Wb}(h:Ok n m B.1 B.2.1 B.2.2):(X0 [wb B,nD n]=some .non/\∃M,maxQD [WD B.1]=some (nD M)/\minQD [WD B.1]=some (nD M)/\∀w∈B.1,w=M)\/∃M place picks,X0 [wb B,nD n]=some (.tup [nD place,AD picks])/\Stp n m B (Yl n B.1 B.2.2 place picks,VP B.2.1 place,Yy B.2.2 m place picks) M place picks/\Qy [wb B,nD n,nD place,AD picks]=some (wb (Yl n B.1 B.2.2 place picks,VP B.2.1 place,Yy B.2.2 m place picks)):=by
 obtain⟨M,x1,x2,x3⟩:=ZjK h;obtain⟨L,y1,y2,y3⟩:=ZgP h
 by_cases hd:L=M
 · subst hd
   exact .inl ⟨ZcC x1 y1,L,x1,y1,λw hw=>Nat.le_antisymm (x3 w hw) (y3 w hw)⟩
 · obtain⟨place,picks,hc,P⟩:=ZcD h x1 y1 x2 x3 y2 hd
   have G:=Zig h x3 P
   have hmin:∃p∈B.2.2.getD place [],B.1.getD p.2 0<M:=by
    obtain⟨ks,b,c,j,_,_,_,_,hj,_⟩:=P.ex;obtain⟨p,hp,hlt⟩:=Zai hj;exact⟨p,List.mem_of_getElem? hp,hlt⟩
   have hs:=(ZfA G).2.2;exact .inr ⟨M,place,picks,hc,⟨h,P.pm,P.pw,x1,⟨L,y1,hd⟩,hmin,G,rfl⟩,Zgi h P.pm (by rw [P.pw];exact Nat.le_of_lt hs)⟩
def U6(m M:Nat)(B:Wb):List Wb:=if 1<M then [(YK m,B.2.1,B.2.2)]else []
theorem ZcF{n m:Nat}{A:Wb}(h:Ok n m A.1 A.2.1 A.2.2):∃Us B M,Run n A Us B/\maxQD [WD B.1]=some (nD M)/\minQD [WD B.1]=some (nD M)/\(∀w∈B.1,w=M)/\J7 [wb A,nD n]=some (.lst ((Us++[B]++U6 (m+Us.length) M B).map wb)):=by
 obtain⟨c0,hc0⟩:∃c0,X0 [wb A,nD n]=some c0:=by
  rcases ZaN h with z|⟨_,_,_,z,_⟩
  · exact⟨_,z.1⟩
  · exact⟨_,z⟩
 obtain⟨δ',h1,Us,B,M,e,r,g1,g2,g3⟩:=JR (τ:=fT) (φ:=fB) (λδ=>∃Us B c,δ=FE n A (Us++[B]) c/\Run n A Us B/\X0 [wb B,nD n]=some c) (λδ=>∃Us B M,δ=FE n A (Us++[B]) .non/\Run n A Us B/\maxQD [WD B.1]=some (nD M)/\minQD [WD B.1]=some (nD M)/\∀w∈B.1,w=M) fM (by
  rintro δ ⟨Us,B,c,rfl,r,hc⟩
  have hB:=(r.inv h).1;have hm:=hB.m5;rcases ZaN hB with⟨z,M,z1,z2,z3⟩|⟨M,place,picks,z,s,hs⟩
  · rw [hc]at z
    cases z;exact .inl ⟨rfl,Us,B,M,rfl,r,z1,z2,z3⟩
  · rw [hc]at z
    cases z
    let C:Wb:=(Yl n B.1 B.2.2 place picks,VP B.2.1 place,Yy B.2.2 (m+Us.length) place picks)
    have r2:Run n A (Us++[B]) C:=r.snoc ⟨_,M,place,picks,s⟩;have hC:=(r2.inv h).1
    obtain⟨c2,hc2⟩:∃c2,X0 [wb C,nD n]=some c2:=by
     rcases ZaN hC with z|⟨_,_,_,z,_⟩
     · exact⟨_,z.1⟩
     · exact⟨_,z⟩
    refine .inr ⟨rfl,FE n A (Us++[B]++[C]) c2,?_,⟨Us++[B],C,c2,rfl,r2,hc2⟩,?_⟩
    · have t1 : YA 2 (ZB 4 Qy [] (Zb fL (Zb (Za 1) (Zb (eOp ixD (Za 3) (eC (.int 0))) (Zb (eOp ixD (Za 3) (eC (.int 1))) eNil))))) (FE n A (Us ++ [B]) (.tup [nD place, AD picks])) = some (.nx (FE n A (Us ++ [B] ++ [C]) (.tup [nD place, AD picks]))) := by
       refine(V7 (xs:=(Us++[B]).map wb) (d:=wb C) rfl ((Ye (n:=4) (ds:=[wb B,nD n,nD place,AD picks]) (Zi (ZfB _ _ _ _ _) (Zi rfl (Zi ((Zh (x:=.tup [nD place,AD picks]) (y:=.int 0) rfl rfl).trans rfl) (Zi ((Zh (x:=.tup [nD place,AD picks]) (y:=.int 1) rfl rfl).trans rfl) nil_of)))) rfl).trans hs) (by rw [List.length_map,List.length_append,List.length_singleton];omega)).trans ?_
       have em:(Us++[B]).map wb++[wb C]=(Us++[B]++[C]).map wb:=by rw [List.map_append (l₁:=Us++[B])];rfl
       rw [em];rfl
      exact(Zu t1).trans ((ZK ((Ye (n:=2) (ds:=[wb C,nD n]) (Zi (ZfB _ _ _ _ _) (Zi rfl nil_of)) rfl).trans hc2)).trans rfl)
    · rw [Zi1,Zi1,List.length_append (as:=Us++[B]),List.length_append,List.length_singleton,List.length_singleton]
      omega) (FE n A ([]++[A]) c0) ⟨[],A,c0,rfl,.one,hc0⟩
 subst e;have hB:=(r.inv h).1;have hm:=hB.m5;refine⟨Us,B,M,r,g1,g2,g3,YE (δ:=[some (wb A),some (nD n),none,none]) rfl ?_⟩;rw [ZcE];refine(Zu (δ':=[some (wb A),some (nD n),some (.lst [wb A]),none]) (ZK (XN (ds:=[wb A]) rfl (by show 1<=1000;decide)))).trans ((Zu (δ':=FE n A ([]++[A]) c0) (ZK ((Ye (n:=2) (ds:=[wb A,nD n]) (Zi rfl (Zi rfl nil_of)) rfl).trans hc0))).trans ((Zu h1).trans ?_))
 have e0:B.1.getD 0 0=M:=g3 _ (hB.wt hB.m1).2
 have ec:xB (eOp (Z6 λi j=>decide (j<i)) (eOp ixD (ZM Yj "weights" fL) (eC (.int 0))) (eC (.int 1))) (FE n A (Us++[B]) .non)=some (decide (1<M)):=by
  have ef:ZM Yj "weights" fL (FE n A (Us++[B]) .non)=some (WD B.1):=by
   unfold ZM;rw [ZfB];rfl
  refine ZN ((Zh (x:=nD M) (y:=nD 1) ((Zh (x:=WD B.1) (y:=nD 0) ef rfl).trans ((Xg hB hB.m1).trans (by rw [e0]))) rfl).trans ?_);exact QF 1 M
 unfold U6
 by_cases hM:1<M
 · rw [decide_eq_true hM]at ec
   rw [if_pos hM]
   have t1:fI (FE n A (Us++[B]) .non)=some (.nx (FE n A (Us++[B]++[(YK (m+Us.length),B.2.1,B.2.2)]) .non)):=by
    refine(XM ec).trans ((V7 (xs:=(Us++[B]).map wb) (d:=Z4 (YK (m+Us.length)) B.2.1 B.2.2) rfl ((Ye (n:=1) (ds:=[wb B]) (Zi (ZfB _ _ _ _ _) nil_of) rfl).trans (Zfx hB)) (by rw [List.length_map,List.length_append,List.length_singleton];omega)).trans ?_);have em:(Us++[B]).map wb++[Z4 (YK (m+Us.length)) B.2.1 B.2.2]=(Us++[B]++[(YK (m+Us.length),B.2.1,B.2.2)]).map wb:=by rw [List.map_append (l₁:=Us++[B])];rfl
    rw [em];rfl
   exact(Zu t1).trans (Yn rfl)
 · rw [decide_eq_false hM]at ec
   rw [if_neg hM,List.append_nil];exact(Zu ((Yo ec).trans rfl)).trans (Yn rfl)
end K39
namespace K39
open DL L2
theorem ZgW(p q:Way):eqP (wyD p) (wyD q)=decide (q=p):=by
 have e:eqP (wyD p) (wyD q)=(tx q.1 == tx p.1&&((q.2:Int) == (p.2:Int))):=by simp [eqP,wyD,toP,Yq,PySem.PyData.eqv,PySem.PyData.eqvAll]
 rw [e,Bool.eq_iff_iff,Bool.and_eq_true,beq_iff_eq,beq_iff_eq,tx_inj,decide_eq_true_eq];exact⟨λz=>Prod.ext z.1 (by omega),λz=>by rw [z];exact⟨rfl,rfl⟩⟩
theorem ZbS{p:Way}(h:Xx p.1):PySem.SeqAt.shaped (toP (wyD p))=true/\(toP (wyD p)).depth<=60:=by
 have:=Zda h;simp [PySem.SeqAt.shaped,wyD,toP,Yq,PySem.PyData.canLay0,PySem.PyData.canLayAll0,PySem.PyData.depth,PySem.PyData.depthAll,this]
theorem Zio{neg:Bool}{p:Way}{r:List Way}(hp:Xx p.1)(hr:∀q∈r,Xx q.1):inT neg (wyD p) (ZA r)=some (.bl (neg != decide (p∈r))):=by
 have h1:=ZbS hp
 have h2:(r.map wyD).all (λd=>PySem.SeqAt.shaped (toP d))=true:=by
  rw [List.all_map,List.all_eq_true];exact λq hq=>(ZbS (hr q hq)).1
 have h3:(r.map wyD).any (eqP (wyD p))=decide (p∈r):=by
  rw [List.any_map,Bool.eq_iff_iff,List.any_eq_true,decide_eq_true_eq];constructor
  · rintro⟨q,hq,z⟩
    have z:eqP (wyD p) (wyD q)=true:=z;rw [ZgW,decide_eq_true_eq]at z;exact z▸hq
  · exact λz=>⟨p,z,(ZgW p p).trans (decide_eq_true rfl)⟩
 show(if(PySem.SeqAt.shaped (toP (wyD p))&&(r.map wyD).all (λd=>PySem.SeqAt.shaped (toP d))&&decide ((toP (wyD p)).depth<=60))=true then some (D.bl (neg != (r.map wyD).any (eqP (wyD p))))else none)=_;rw [h1.1,h2,decide_eq_true h1.2,h3];rfl
theorem ZeN{l:List Nat}(hl:0<l.length):∃M,minQD [AD l]=some (nD M)/\M∈l/\∀w∈l,M<=w:=by
 have hz:0<(l.map λa=>((a:Nat):Int)).length:=by rw [List.length_map];exact hl
 obtain⟨h1,h2⟩:=ZaH hz;obtain⟨M,hM,e⟩:=List.mem_map.mp h1;refine⟨M,?_,hM,λw hw => ?_⟩
 · show minLD [.lst (l.map nD)]=_
   unfold minLD;dsimp only;rw [U3];dsimp only;rw [if_pos hz,<-e]
 · have:=h2 _ (List.mem_map.mpr ⟨w,hw,rfl⟩)
   rw [<-e]at this;omega
noncomputable def twB:DL.Env->Option Out:=(Zf (YA 3 (Yi (Zb (Za 4) (Zb (Za 5) eNil)))) (sIf (xB (eOp eqD (Za 5) (Za 1))) (YA 3 (Yi (Zb (Za 4) (Zb (Za 2) eNil)))) sNext))
theorem Zgm:f_QJ=Zf (Zq 3 (Yc eNil)) (Zf (Yv (ZH (Za 0)) (Yu 2 (ZJ 4 (ZJ 5 gsNil))) twB) (Zy (eCB ZZ (Zb (Za 3) eNil)))):=rfl
abbrev TE3(x:D)(place new:Nat)(ws:List Way)(v4 v5:Option D):DL.Env:=[some x,some (nD place),some (nD new),some (.lst (ws.map wyD)),v4,v5]
theorem Zfy(place new:Nat)(r:List Way)(p:Way):ZG place new (r++[p])=ZG place new r++dbl place new p:=by
 unfold ZG;rw [List.flatMap_append];simp
theorem Zgn{q:Bool×List Way}{place new:Nat}(hl:q.2.length<=300):Zj6 [kd q,nD place,nD new]=some (ZA (ZG place new q.2)):=by
 obtain⟨δ',h1,w4,w5,rfl⟩:=QC (γ:=Yu 2 (ZJ 4 (ZJ 5 gsNil))) (φ:=twB) wyD (λdn δ=>∃w4 w5,δ=TE3 (kd q) place new (ZG place new dn) w4 w5) q.2 (by
  rintro dn p rest δ e ⟨w4,w5,rfl⟩
  have hdl:dn.length<=300:=by
   have:=congrArg List.length e;rw [List.length_append]at this;omega
  have hd2:=Za7 place new dn;refine⟨TE3 (kd q) place new (ZG place new dn) (some (.str p.1)) (some (nD p.2)),rfl,TE3 (kd q) place new (ZG place new (dn++[p])) (some (.str p.1)) (some (nD p.2)),?_,_,_,rfl⟩
  have t1:YA 3 (Yi (Zb (Za 4) (Zb (Za 5) eNil))) (TE3 (kd q) place new (ZG place new dn) (some (.str p.1)) (some (nD p.2)))=some (.nx (TE3 (kd q) place new (ZG place new dn++[p]) (some (.str p.1)) (some (nD p.2)))):=by
   refine(V7 (xs:=(ZG place new dn).map wyD) (d:=wyD p) rfl (Vz (Zi rfl (Zi rfl nil_of)) (by show 2<=1000;decide)) (by rw [List.length_map];omega)).trans ?_;rw [show(ZG place new dn).map wyD++[wyD p]=(ZG place new dn++[p]).map wyD by rw [List.map_append];rfl];rfl
  have c1:xB (eOp eqD (Za 5) (Za 1)) (TE3 (kd q) place new (ZG place new dn++[p]) (some (.str p.1)) (some (nD p.2)))=some (decide (p.2=place)):=ZN ((Zh (x:=nD p.2) (y:=nD place) rfl rfl).trans (UN _ _));refine(Zu t1).trans ?_;rw [Zfy];unfold dbl
  by_cases z:p.2=place
  · rw [decide_eq_true z]at c1
    rw [if_pos z];refine(XM c1).trans ((V7 (xs:=(ZG place new dn++[p]).map wyD) (d:=wyD (p.1,new)) rfl (Vz (Zi rfl (Zi rfl nil_of)) (by show 2<=1000;decide)) (by rw [List.length_map,List.length_append,List.length_singleton];omega)).trans ?_);rw [show(ZG place new dn++[p]).map wyD++[wyD (p.1,new)]=(ZG place new dn++[p,(p.1,new)]).map wyD by rw [List.map_append,List.map_append,List.append_assoc];rfl]
    rfl
  · rw [decide_eq_false z]at c1
    rw [if_neg z];exact(Yo c1).trans rfl) q.2 [] (TE3 (kd q) place new [] none none) rfl ⟨_,_,rfl⟩
 refine YE (δ:=[some (kd q),some (nD place),some (nD new),none,none,none]) rfl ?_;rw [Zgm];exact(Zu (δ':=TE3 (kd q) place new [] none none) (ZK (XN (ds:=[]) rfl (by decide)))).trans ((Zu (Ve (Zhf q rfl) h1)).trans (Yn ((ZI (Zi (x:=.lst ((ZG place new q.2).map wyD)) rfl nil_of)).trans rfl)))
theorem ZdQ{α:Type} [DecidableEq α]{l r:List α}(h:l.Sublist r):r.Nodup->r.filter (λx=>decide (x∈l))=l:=by
 induction h with
 |slnil=>intro _;rfl
 |cons a h ih=>
  rename_i l r;intro hn;rw [List.nodup_cons]at hn;rw [List.filter_cons_of_neg (by simpa using λz=>hn.1 (h.subset z)),ih hn.2]
 |cons_cons a h ih=>
  rename_i l r;intro hn;rw [List.nodup_cons]at hn;rw [List.filter_cons_of_pos (by simp)]
  congr 1
  refine Eq.trans ?_ (ih hn.2);refine List.filter_congr λx hx => ?_
  have:x≠a:=λe=>hn.1 (e▸hx)
  simp [this]
theorem ZdR{picks:List Nat}{r:List Way}(hn:r.Nodup){p:Way}(hp:p∈r):p∈Zt false picks r ↔ p∉Zt true picks r:=by
 constructor
 · intro h1 h2
   obtain⟨⟨i,q⟩,hq,rfl⟩:=List.mem_map.mp h1;obtain⟨⟨j,q'⟩,hq',e⟩:=List.mem_map.mp h2;have e:q'=q:=e;subst e;obtain⟨a1,a2⟩:=List.mem_filter.mp hq;obtain⟨b1,b2⟩:=List.mem_filter.mp hq';rw [Zcm]at a1 b1;obtain⟨k,hk,ek⟩:=List.mem_map.mp a1;obtain⟨k',hk',ek'⟩:=List.mem_map.mp b1;have i1:=Prod.mk.inj ek;have i2:=Prod.mk.inj ek';have hkl:=List.mem_range.mp hk;have hkl':=List.mem_range.mp hk'
   have ee:k=k':=by
    have z:=i1.2.trans i2.2.symm;rw [List.getD_eq_getElem?_getD,List.getElem?_eq_getElem hkl,List.getD_eq_getElem?_getD,List.getElem?_eq_getElem hkl']at z;exact(List.getElem_inj hn).mp z
   have:i=j:=by rw [<-i1.1,<-i2.1,ee]
   subst this;have a3:i∉picks:=by simpa using a2
   exact a3 (by simpa using b2)
 · intro h
   exact(ZbP hp).resolve_left h
theorem Zbq{picks:List Nat}{r:List Way}(hn:r.Nodup)(b:Bool):r.filter (λp=>b != decide (p∈Zt true picks r))=Zt (!b) picks r:=by
 refine Eq.trans (List.filter_congr λp hp => ?_) (ZdQ (Jc (!b) picks r) hn);cases b with
 |false=>simp
 |true=>
  have:=ZdR (picks:=picks) hn hp
  by_cases z:p∈Zt true picks r<;>simp [z,this]
end K39
namespace K39
open DL L2
section
variable{n m M place:Nat}{W:List Nat}{hs:List Int}{Y:List (List Way)}{picks:List Nat}
noncomputable def o3:DL.Env->Option Out:=(Zq 3 (eCB lenD (Zb (eOp ixD (Za 0) (eC (.int 0))) eNil)))
noncomputable def o4t:DL.Env->Option Bool:=(xB (eOp neD (eOp ixD (eOp ixD (Za 1) (eC (.int 1))) (Za 0)) (eOp ixD (eOp ixD (Za 2) (eC (.int 1))) (Za 0))))
noncomputable def o4:DL.Env->Option Out:=(Zq 4 (ZF (Z7 (Zb (Za 3) eNil)) (Zw 0) o4t (Za 0) 1 [0,1]))
noncomputable def oL(i:Int):DL.Env->Option Bool:=(xB (eOp neD (eCB lenD (Zb (eOp ixD (Za 1) (eC (.int i))) eNil)) (eOp addX (Za 3) (eC (.int 1)))))
noncomputable def o5:DL.Env->Option Out:=(sIf (xOr (oL 0) (xOr (xB (eOp neD (eCB lenD (Zb (Za 4) eNil)) (eC (.int 1)))) (xOr (oL 1) (oL 2)))) (Zy (eC (.bl false))) sNext)
noncomputable def o6:DL.Env->Option Out:=(Zq 5 (eOp ixD (Za 4) (eC (.int 0))))
noncomputable def oW:DL.Env->Option D:=(eOp ixD (eOp ixD (Za 0) (eC (.int 1))) (Za 5))
noncomputable def oV(i:Nat):DL.Env->Option D:=(eOp ixD (eOp ixD (Za 1) (eC (.int 1))) (Za i))
noncomputable def o7:DL.Env->Option Out:=(sIf (xOr (xB (eOp neD (eOp ixD (Za 1) (eC (.int 0))) (eOp catT (eOp ixD (Za 0) (eC (.int 0))) (Yi (Zb (eOp ixD (eOp ixD (Za 0) (eC (.int 0))) (Za 5)) eNil))))) (xB (eOp neD (eOp addX (oV 5) (oV 3)) oW))) (Zy (eC (.bl false))) sNext)
noncomputable def o8:DL.Env->Option Out:=(sIf (xOr (xB (eOp neD oW (eCB maxQD (Zb (eOp ixD (Za 0) (eC (.int 1))) eNil)))) (xB (eOp (Z6 λi j=>decide (i<j)) (eCB minQD (Zb (eOp ixD (Za 1) (eC (.int 1))) eNil)) (eC (.int 1))))) (Zy (eC (.bl false))) sNext)
noncomputable def oR:DL.Env->Option (List D):=(ZH (eOp ixD (eOp ixD (Za 0) (eC (.int 2))) (Za 5)))
noncomputable def oC:DL.Env->Option D:=(eOp ixD (eOp ixD (Za 1) (eC (.int 1))) (eOp ixD (Za 0) (eC (.int 1))))
noncomputable def o9:DL.Env->Option Out:=(sIf (xB (eOp eqD (eCB minQD (Zb (ZF oR (Zw 0) (λ_=>some true) oC 1 [0]) eNil)) oW)) (Zy (eC (.bl false))) sNext)
noncomputable def Zkw(b:Bool):DL.Env->Option Bool:=(xB (eOp (inT b) (Za 0) (eOp ixD (eOp ixD (Za 1) (eC (.int 2))) (Za 2))))
noncomputable def o10(i:Nat)(b:Bool):DL.Env->Option Out:=(Zq i (ZF oR (Zw 0) (Zkw b) (Za 0) 1 [1,5]))
noncomputable def o12:DL.Env->Option Out:=(sIf (xB (eOp neD (eCB sumLD (Zb (ZF (ZH (Za 6)) (Zw 0) (λ_=>some true) oC 1 [0]) eNil)) (eOp mulX (Za 2) (oV 5)))) (Zy (eC (.bl false))) sNext)
noncomputable def o13:DL.Env->Option Out:=(Zq 8 (eOp XJ (eCB Y5 (Zb (eOp ixD (Za 0) (eC (.int 2))) eNil)) (Yc (Zb (Za 7) eNil))))
noncomputable def Zmf:DL.Env->Option D:=(ZB 3 Zj6 [] (Zb (Za 0) (Zb (Za 1) (Zb (Za 2) eNil))))
noncomputable def o14:DL.Env->Option Out:=(Zy (eOp eqD (eOp ixD (Za 1) (eC (.int 2))) (eCB ZZ (Zb (ZF (ZH (Za 8)) (Zw 0) (λ_=>some true) Zmf 1 [5,3]) eNil))))
theorem ZjZ:f_QA=Zf o3 (Zf o4 (Zf o5 (Zf o6 (Zf o7 (Zf o8 (Zf o9 (Zf (o10 6 false) (Zf (o10 7 true) (Zf o12 (Zf o13 (Zf (XH 8 (Za 5) (Za 6)) o14))))))))))):=rfl
theorem Zgo(l:List Int):PySem.SeqAt.shaped (toP (HD l))=true:=by
 simp [PySem.SeqAt.shaped,HD,toP,PySem.PyData.canLay0,PySem.PyData.depth,JU,JV]
theorem Zgp(h:Ok n m W hs Y):PySem.SeqAt.shaped (toP (YD Y))=true:=by
 have e1:=Zbl λr hr p hp=>(h.cd r hr p hp).2
 have e2:=Zbm Y;simp [PySem.SeqAt.shaped,YD,toP,PySem.PyData.canLay0,PySem.PyData.depth,e1];omega
theorem ZlJ{l:List Int}(h:1<=l.length)(hl:l.length<=1000)(x:Int):catT (HD l) (.tup [.int x])=some (HD (l++[x])):=by
 cases l with
 |nil=>exact absurd h (by decide)
 |cons a l=>
  show(if(D.int a::l.map D.int).length+[D.int x].length<=PySem.sizeLine then some (D.tup ((D.int a::l.map D.int)++[D.int x]))else none)=_;rw [if_pos (by rw [PySem.sizeLine_eq,List.length_cons,List.length_map];rw [List.length_cons]at hl;show l.length+1+1<=_;omega)];show _=some (D.tup ((a::l++[x]).map D.int));rw [List.map_append];rfl
theorem ZdS(h:Ok n m W hs Y)(hp:place<m)(hM:W.getD place 0=M)(hlt:shr n W Y place picks<M):(List.range m).filter (λk => !decide (W.getD k 0=(Yl n W Y place picks).getD k 0))=[place]:=by
 refine Zd8 (List.Pairwise.filter _ List.pairwise_lt_range) (List.pairwise_singleton _ _) λt => ?_
 rw [List.mem_filter,List.mem_range,List.mem_singleton];constructor
 · rintro⟨ht,z⟩
   by_cases e:t=place
   · exact e
   · rw [Zhh h ht e]at z
     simp at z
 · rintro rfl
   refine⟨hp,?_⟩;rw [Zaz h hp,decide_eq_false (by omega)];rfl
theorem Zb1(h:Ok n m W hs Y)(hp:place<m)(hM:W.getD place 0=M)(mx:maxQD [WD W]=some (nD M))(hmin:∃p∈Y.getD place [],W.getD p.2 0<M)(G:Good n M W (Y.getD place []) picks):Zj7 [Zr W hs Y,Zr (Yl n W Y place picks) (VP hs place) (Yy Y m place picks),nD n]=some (.bl true):=by
 have h':=Zdk h hp hM G;obtain⟨s1,s2,s3⟩:=ZfA G;have hm5:=h.m5;have hn6:=h.n6;have hrow:=(h.row hp).2;have hrl:=h.rl _ hrow;have hl1:=Zac true picks (Y.getD place []);have hl2:=Zac false picks (Y.getD place []);have hnd:=h.nd _ hrow;have w5:=(h.w1 _ (h.wt hp).2).2;have wP:=Zaz (picks:=picks) h hp;have wN:=Zea (picks:=picks) h hp;have f0:=ZdS h hp hM s3;have yP:=Zay (picks:=picks) h hp
 have tupS:YD (Yy Y m place picks) = .tup ((Z8 Y place picks).map λq=>ZA (ZG place m q.2)):=by
  unfold Yy YD;rw [List.map_map];rfl
 have hkl:∀q∈Z8 Y place picks,q.2.length<=300:=λq hq=>by
  unfold Z8 at hq;rcases List.mem_or_eq_of_mem_set hq with z|z
  · rcases List.mem_append.mp z with z|z
    · obtain⟨r,hr,rfl⟩:=List.mem_map.mp z
      exact Nat.le_trans (h.rl r hr) (by decide)
    · rw [List.mem_singleton.mp z]
      show(Zt false picks (Y.getD place [])).length<=300;omega
  · rw [z]
    show(Zt true picks (Y.getD place [])).length<=300;omega
 have hkn:(Z8 Y place picks).length=m+1:=by
  unfold Z8;rw [List.length_set,List.length_append,List.length_map,h.ly];rfl
 have eH:HD (VP hs place)=HD (hs++[hs.getD place 0]):=rfl;generalize hW':Yl n W Y place picks=W' at h' wP wN f0 ⊢;generalize hY':Yy Y m place picks=Y' at h' yP tupS ⊢;generalize hH':VP hs place=hs' at h' eH ⊢;refine YE (δ:=[some (Zr W hs Y),some (Zr W' hs' Y'),some (nD n),none,none,none,none,none,none]) rfl ?_;rw [ZjZ]
 have t3:o3 [some (Zr W hs Y),some (Zr W' hs' Y'),some (nD n),none,none,none,none,none,none]=some (.nx [some (Zr W hs Y),some (Zr W' hs' Y'),some (nD n),some (nD m),none,none,none,none,none]):=by
  refine(ZK (d:=nD m) ((ZI (Zi (x:=HD hs) rfl nil_of)).trans ?_)).trans rfl;show some (D.int ((hs.map D.int).length:Int))=_;rw [List.length_map,h.lh]
 have t4:o4 [some (Zr W hs Y),some (Zr W' hs' Y'),some (nD n),some (nD m),none,none,none,none,none]=some (.nx [some (Zr W hs Y),some (Zr W' hs' Y'),some (nD n),some (nD m),some (AD [place]),none,none,none,none]):=by
  refine(ZK (d:=AD [place]) (Yx (δ0:=[none,some (Zr W hs Y),some (Zr W' hs' Y')]) (xs:=(List.range m).map nD) ((Vd (j:=(m:Int)) (Zi rfl nil_of) (by omega) (by omega)).trans (by rw [Int.toNat_natCast,Uq])) rfl ((QD (τ:=o4t) (ε:=Za 0) nD (λk => !decide (W.getD k 0=W'.getD k 0)) (List.range m) λk hk=>⟨[some (nD k),some (Zr W hs Y),some (Zr W' hs' Y')],rfl,ZN ((Zh ((Zh (x:=WD W) (y:=nD k) rfl rfl).trans (Xg h (List.mem_range.mp hk))) ((Zh (x:=WD W') (y:=nD k) rfl rfl).trans (Xg h' (Nat.lt_succ_of_lt (List.mem_range.mp hk))))).trans (X2 _ _)),rfl⟩).trans (by rw [f0])) (by show 1<=1000000;decide))).trans rfl
 have add1:∀v4 v5,eOp addX (Za 3) (eC (.int 1)) [some (Zr W hs Y),some (Zr W' hs' Y'),some (nD n),some (nD m),v4,v5,none,none,none]=some (nD (m+1)):=λv4 v5=>by
  refine(Zh (x:=nD m) (y:=.int 1) rfl rfl).trans ((add_int _ _).trans ?_);rw [show((m:Int)+1)=((m+1:Nat):Int) by push_cast;rfl]
 have t5:o5 [some (Zr W hs Y),some (Zr W' hs' Y'),some (nD n),some (nD m),some (AD [place]),none,none,none,none]=some (.nx [some (Zr W hs Y),some (Zr W' hs' Y'),some (nD n),some (nD m),some (AD [place]),none,none,none,none]):=by
  have no:(!decide (m+1=m+1))=false:=by simp
  refine(Yo (V6 (ZN ((Zh (x:=nD (m+1)) ((ZI (Zi (x:=HD hs') rfl nil_of)).trans ?_) (add1 _ _)).trans ((X2 _ _).trans (by rw [no])))) (V6 (ZN ((Zh (x:=nD 1) (y:=nD 1) ((ZI (Zi (x:=AD [place]) rfl nil_of)).trans rfl) rfl).trans (X2 1 1))) (V6 (ZN ((Zh (x:=nD (m+1)) ((ZI (Zi (x:=WD W') rfl nil_of)).trans ?_) (add1 _ _)).trans ((X2 _ _).trans (by rw [no])))) (ZN ((Zh (x:=nD (m+1)) ((ZI (Zi (x:=YD Y') rfl nil_of)).trans ?_) (add1 _ _)).trans ((X2 _ _).trans (by rw [no])))))))).trans rfl
  · show some (D.int ((hs'.map D.int).length:Int))=_
    rw [List.length_map,h'.lh]
  · show some (D.int ((W'.map nD).length:Int))=_
    rw [List.length_map,h'.lw]
  · show some (D.int ((Y'.map ZA).length:Int))=_
    rw [List.length_map,h'.ly]
 have t6:o6 [some (Zr W hs Y),some (Zr W' hs' Y'),some (nD n),some (nD m),some (AD [place]),none,none,none,none]=some (.nx [some (Zr W hs Y),some (Zr W' hs' Y'),some (nD n),some (nD m),some (AD [place]),some (nD place),none,none,none]):=(ZK (d:=nD place) ((Zh (x:=AD [place]) (y:=nD 0) rfl rfl).trans (Vf rfl))).trans rfl;have eW:∀v6 v7 v8,oW [some (Zr W hs Y),some (Zr W' hs' Y'),some (nD n),some (nD m),some (AD [place]),some (nD place),v6,v7,v8]=some (nD M):=λv6 v7 v8=>(Zh (x:=WD W) (y:=nD place) rfl rfl).trans ((Xg h hp).trans (by rw [hM]))
 have eV:∀v6 v7 v8,oV 5 [some (Zr W hs Y),some (Zr W' hs' Y'),some (nD n),some (nD m),some (AD [place]),some (nD place),v6,v7,v8]=some (nD (shr n W Y place picks)):=λv6 v7 v8=>(Zh (x:=WD W') (y:=nD place) rfl rfl).trans ((Xg h' (Nat.lt_succ_of_lt hp)).trans (by rw [wP]))
 have hhl:place<hs.length:=by rw [h.lh];exact hp
 have t7:o7 [some (Zr W hs Y),some (Zr W' hs' Y'),some (nD n),some (nD m),some (AD [place]),some (nD place),none,none,none]=some (.nx [some (Zr W hs Y),some (Zr W' hs' Y'),some (nD n),some (nD m),some (AD [place]),some (nD place),none,none,none]):=by
  have ec:eOp catT (eOp ixD (Za 0) (eC (.int 0))) (Yi (Zb (eOp ixD (eOp ixD (Za 0) (eC (.int 0))) (Za 5)) eNil)) [some (Zr W hs Y),some (Zr W' hs' Y'),some (nD n),some (nD m),some (AD [place]),some (nD place),none,none,none]=some (HD hs'):=by
   rw [eH];refine(Zh (x:=HD hs) (y:=.tup [.int (hs.getD place 0)]) rfl (Vz (Zi ((Zh (x:=HD hs) (y:=nD place) rfl rfl).trans (ix_tup ?_)) nil_of) (by show 1<=1000;decide))).trans (ZlJ (by have:=h.m1;omega) (by have:=h.lh;omega) _);rw [List.getElem?_map,List.getD_eq_getElem?_getD,List.getElem?_eq_getElem hhl];rfl
  have ev:oV 3 [some (Zr W hs Y),some (Zr W' hs' Y'),some (nD n),some (nD m),some (AD [place]),some (nD place),none,none,none]=some (nD (M-shr n W Y place picks)):=(Zh (x:=WD W') (y:=nD m) rfl rfl).trans ((Xg h' (Nat.lt_succ_self m)).trans (by rw [wN,hM]));refine(Yo (V6 (ZN ((Zh (x:=HD hs') rfl ec).trans (JT rfl (Zgo hs')))) (ZN ((Zh (x:=nD M) ((Zh (eV _ _ _) ev).trans ((add_int _ _).trans ?_)) (eW _ _ _)).trans ((X2 M M).trans (by simp)))))).trans rfl
  rw [show(((shr n W Y place picks:Nat):Int)+((M-shr n W Y place picks:Nat):Int))=(M:Int) by omega]
 have t8:o8 [some (Zr W hs Y),some (Zr W' hs' Y'),some (nD n),some (nD m),some (AD [place]),some (nD place),none,none,none]=some (.nx [some (Zr W hs Y),some (Zr W' hs' Y'),some (nD n),some (nD m),some (AD [place]),some (nD place),none,none,none]):=by
  obtain⟨L,y1,y2,y3⟩:=ZgP h';have hL:=(h'.w1 L y2).1;exact(Yo (V6 (ZN ((Zh (eW _ _ _) ((ZI (Zi (x:=WD W) rfl nil_of)).trans mx)).trans ((X2 M M).trans (by simp)))) (ZN ((Zh (y:=nD 1) ((ZI (Zi (x:=WD W') rfl nil_of)).trans y1) rfl).trans ((QF L 1).trans (by rw [decide_eq_false (by omega)])))))).trans rfl
 have eR:∀v6 v7 v8,oR [some (Zr W hs Y),some (Zr W' hs' Y'),some (nD n),some (nD m),some (AD [place]),some (nD place),v6,v7,v8]=some ((Y.getD place []).map wyD):=λv6 v7 v8=>by
  unfold oR ZH;rw [(Zh (x:=YD Y) (y:=nD place) rfl rfl).trans (UL h hp)];rfl
 have cC:∀{r:List Way},(∀p∈r,p∈Y.getD place [])->YB (Zw 0) (λ_=>some true) oC [none,some (Zr W hs Y)] (r.map wyD)=some ((r.map λp=>W.getD p.2 0).map nD):=λ{r} hr=>by
  rw [List.map_map];exact YW (ε:=oC) wyD _ r λp hq=>⟨[some (wyD p),some (Zr W hs Y)],rfl,(Zh (x:=WD W) (y:=nD p.2) rfl ((Zh (x:=wyD p) (y:=.int 1) rfl rfl).trans (Up p))).trans (Xg h (h.tg _ hrow p (hr p hq)))⟩
 have t9:o9 [some (Zr W hs Y),some (Zr W' hs' Y'),some (nD n),some (nD m),some (AD [place]),some (nD place),none,none,none]=some (.nx [some (Zr W hs Y),some (Zr W' hs' Y'),some (nD n),some (nD m),some (AD [place]),some (nD place),none,none,none]):=by
  obtain⟨p0,hp0,hlt⟩:=hmin;obtain⟨mn,e1,_,e3⟩:=ZeN (l:=(Y.getD place []).map λp=>W.getD p.2 0) (by rw [List.length_map];exact List.length_pos_of_mem hp0);have e4:=e3 _ (List.mem_map.mpr ⟨p0,hp0,rfl⟩);exact(Yo (ZN ((Zh ((ZI (Zi (Yx (δ0:=[none,some (Zr W hs Y)]) (eR _ _ _) rfl (cC λ_ z=>z) (by rw [List.length_map,List.length_map];omega)) nil_of)).trans e1) (eW _ _ _)).trans ((UN mn M).trans (by rw [decide_eq_false (by omega)]))))).trans rfl
 have cd:∀p∈Y.getD place [],Xx p.1:=λp hq=>(h.cd _ hrow p hq).2
 have t10:∀b v6,ZF oR (Zw 0) (Zkw b) (Za 0) 1 [1,5] [some (Zr W hs Y),some (Zr W' hs' Y'),some (nD n),some (nD m),some (AD [place]),some (nD place),v6,none,none]=some (.lst ((Zt (!b) picks (Y.getD place [])).map wyD)):=λb v6=>by
  rw [<-Zbq hnd b];refine Yx (δ0:=[none,some (Zr W' hs' Y'),some (nD place)]) (eR _ _ _) rfl (QD (τ:=Zkw b) (ε:=Za 0) wyD (λp=>b != decide (p∈Zt true picks (Y.getD place []))) (Y.getD place []) λp hq=>⟨[some (wyD p),some (Zr W' hs' Y'),some (nD place)],rfl,ZN ((Zh (x:=wyD p) rfl ((Zh (x:=YD Y') (y:=nD place) rfl rfl).trans ((UL h' (Nat.lt_succ_of_lt hp)).trans (by rw [yP])))).trans ((Zio (cd p hq) λq hz => ?_).trans ?_)),rfl⟩) ?_
  · rcases mem_dblR.mp hz with z|⟨q',z,_,rfl⟩
    · exact cd q (UQ z)
    · exact cd q' (UQ z)
  · have : p ∈ ZG place m (Zt true picks (Y.getD place [])) ↔ p ∈ Zt true picks (Y.getD place []) := by
     rw [mem_dblR];refine⟨λz=>z.elim id ?_,.inl⟩
     rintro⟨q,_,_,e⟩
     have:=h.tg _ hrow p hq;rw [e]at this;exact absurd this (Nat.lt_irrefl m)
    rw [decide_eq_decide.mpr this]
  · rw [List.length_map]
    have:=List.length_filter_le (λp=>b != decide (p∈Zt true picks (Y.getD place []))) (Y.getD place []);omega
 have t12:o12 [some (Zr W hs Y),some (Zr W' hs' Y'),some (nD n),some (nD m),some (AD [place]),some (nD place),some (.lst ((Zt true picks (Y.getD place [])).map wyD)),some (.lst ((Zt false picks (Y.getD place [])).map wyD)),none]=some (.nx [some (Zr W hs Y),some (Zr W' hs' Y'),some (nD n),some (nD m),some (AD [place]),some (nD place),some (.lst ((Zt true picks (Y.getD place [])).map wyD)),some (.lst ((Zt false picks (Y.getD place [])).map wyD)),none]):=by
  refine(Yo (ZN ((Zh (x:=nD (Z2 W (Zt true picks (Y.getD place [])))) (y:=nD (n*shr n W Y place picks)) ((ZI (Zi (Yx (δ0:=[none,some (Zr W hs Y)]) (xs:=(Zt true picks (Y.getD place [])).map wyD) rfl rfl (cC λ_ z=>UQ z) (by rw [List.length_map,List.length_map];omega)) nil_of)).trans (ZcI _)) ((Zh (x:=nD n) rfl (eV _ _ _)).trans ((JW (by omega) (by omega)).trans ?_))).trans ((X2 _ _).trans (by rw [s1];simp))))).trans rfl
  rw [show((n:Int)*((shr n W Y place picks:Nat):Int))=((n*shr n W Y place picks:Nat):Int) by push_cast;rfl]
 have t13:o13 [some (Zr W hs Y),some (Zr W' hs' Y'),some (nD n),some (nD m),some (AD [place]),some (nD place),some (.lst ((Zt true picks (Y.getD place [])).map wyD)),some (.lst ((Zt false picks (Y.getD place [])).map wyD)),none]=some (.nx [some (Zr W hs Y),some (Zr W' hs' Y'),some (nD n),some (nD m),some (AD [place]),some (nD place),some (.lst ((Zt true picks (Y.getD place [])).map wyD)),some (.lst ((Zt false picks (Y.getD place [])).map wyD)),some (.lst (Y.map ZA++[D.lst ((Zt false picks (Y.getD place [])).map wyD)]))]):=
  (ZK ((Zh (x:=.lst (Y.map ZA)) (y:=.lst [D.lst ((Zt false picks (Y.getD place [])).map wyD)]) ((ZI (Zi (x:=YD Y) rfl nil_of)).trans rfl) (XN (ds:=[D.lst ((Zt false picks (Y.getD place [])).map wyD)]) (Zi rfl nil_of) (by show 1<=1000;decide))).trans (Za8 (by rw [List.length_map,h.ly];show m+1<=1000000;omega)))).trans rfl
 have t13b:XH 8 (Za 5) (Za 6) [some (Zr W hs Y),some (Zr W' hs' Y'),some (nD n),some (nD m),some (AD [place]),some (nD place),some (.lst ((Zt true picks (Y.getD place [])).map wyD)),some (.lst ((Zt false picks (Y.getD place [])).map wyD)),some (.lst (Y.map ZA++[D.lst ((Zt false picks (Y.getD place [])).map wyD)]))]=some (.nx [some (Zr W hs Y),some (Zr W' hs' Y'),some (nD n),some (nD m),some (AD [place]),some (nD place),some (.lst ((Zt true picks (Y.getD place [])).map wyD)),some (.lst ((Zt false picks (Y.getD place [])).map wyD)),some (.lst ((Z8 Y place picks).map kd))]):=by
  refine(Zcl (j:=place) (d:=.lst ((Zt true picks (Y.getD place [])).map wyD)) rfl rfl rfl (by rw [List.length_append,List.length_map,h.ly];omega)).trans ?_
  have em:(Y.map ZA++[D.lst ((Zt false picks (Y.getD place [])).map wyD)]).set place (.lst ((Zt true picks (Y.getD place [])).map wyD))=(Z8 Y place picks).map kd:=by
   unfold Z8;rw [List.map_set,List.map_append,List.map_map];rfl
  rw [em];rfl
 refine(Zu t3).trans ((Zu t4).trans ((Zu t5).trans ((Zu t6).trans ((Zu t7).trans ((Zu t8).trans ((Zu t9).trans ((Zu (ZK (t10 false none))).trans ((Zu (ZK (t10 true _))).trans ((Zu t12).trans ((Zu t13).trans ((Zu t13b).trans (Yn ?_))))))))))));refine(Zh (x:=YD Y') (y:=YD Y') rfl ((ZI (Zi (Yx (δ0:=[none,some (nD place),some (nD m)]) (xs:=(Z8 Y place picks).map kd) rfl rfl (YW (ε:=Zmf) kd (λq=>ZA (ZG place m q.2)) (Z8 Y place picks) λq hq=>⟨[some (kd q),some (nD place),some (nD m)],rfl,(Ye (n:=3) (Zi rfl (Zi rfl (Zi rfl nil_of))) rfl).trans (Zgn (hkl q hq))⟩) (by rw [List.length_map,hkn];omega)) nil_of)).trans (by rw [tupS];rfl))).trans (Zc9 rfl (Zgp h'))
end
end K39
namespace K39
open DL L2
abbrev tl(A:Wb):D:=Zr A.1 A.2.1 A.2.2
theorem ZeO(A:Wb):Qz [wb A]=some (tl A):=YE (δ:=[some (wb A)]) rfl (Yn (Vz (Zi rfl (Zi rfl (Zi rfl nil_of))) (by show 3<=1000;decide)))
theorem Zfz{W:List Nat}{M L:Nat}(e1:maxQD [WD W]=some (nD M))(e2:minQD [WD W]=some (nD L)):Ja [WD W]=some (.bl (decide (M=L))):=
 YE (δ:=[some (WD W)]) rfl (Yn ((Zh ((ZI (Zi (x:=WD W) rfl nil_of)).trans e1) ((ZI (Zi (x:=WD W) rfl nil_of)).trans e2)).trans (UN M L)))
noncomputable def lw1:DL.Env->Option Out:=(Zq 1 (eOp addX (eC (.int 1)) (eOp modW (ZB 2 YQ [] (Zb (Za 0) (Zb (eC (.int 0)) eNil))) (eC (.int 6)))))
noncomputable def lw2:DL.Env->Option Out:=(Zq 2 (ZB 3 Q8 [] (Zb (Za 0) (Zb (eC (.int 2)) (Zb (Za 1) eNil)))))
noncomputable def lw3:DL.Env->Option Out:=(Zq 3 (ZB 2 Zj3 [] (Zb (Za 0) (Zb (Za 2) eNil))))
noncomputable def lw4:DL.Env->Option Out:=(Zq 4 (ZB 2 J7 [] (Zb (Za 3) (Zb (Za 1) eNil))))
noncomputable def lw5:DL.Env->Option Out:=(sIf (xOr (Xl (xB (Va JY (Za 4)))) (xOr (xB (eOp eqD (eCB lenD (Zb (Za 4) eNil)) (eC (.int 0)))) (xB (eOp neD (ZB 1 Qz [] (Zb (Za 3) eNil)) (Za 2))))) (Zy (eC (.bl false))) sNext)
noncomputable def Zmg:DL.Env->Option D:=(ZB 1 Qz [] (Zb (Za 0) eNil))
noncomputable def lw6:DL.Env->Option Out:=(Zq 5 (ZF (ZH (Za 4)) (Zw 0) (λ_=>some true) Zmg 1 []))
noncomputable def lw7:DL.Env->Option Out:=(sIf (xB (eOp neD (eOp ixD (Za 5) (eC (.int 0))) (Za 2))) (Zy (eC (.bl false))) sNext)
noncomputable def QG:DL.Env->Option D:=(eOp ixD (Za 5) (Za 6))
noncomputable def lAl:DL.Env->Option Bool:=(Xl (xB (ZB 1 Ja [] (Zb (eOp ixD QG (eC (.int 1))) eNil))))
noncomputable def Je:DL.Env->Option D:=(eCB lenD (Zb (Za 5) eNil))
noncomputable def lT:DL.Env->Option Bool:=(Xe (xB (eOp (Z6 λi j=>decide (i<j)) (eOp addX (Za 6) (eC (.int 1))) Je)) lAl)
noncomputable def lB9:DL.Env->Option Out:=(Zf (sIf (Xl (xB (ZB 3 Zj7 [] (Zb QG (Zb (eOp ixD (Za 5) (eOp addX (Za 6) (eC (.int 1)))) (Zb (Za 1) eNil)))))) (Zy (eC (.bl false))) sNext) (Zq 6 (eOp addX (Za 6) (eC (.int 1)))))
noncomputable def Zmh:DL.Env->Option Out:=(sIf (xOr lAl (xB (eOp (Z6 λi j=>decide (j<i)) (Za 6) (eOp subD (eCB sumTD (Zb (eOp ixD (Za 2) (eC (.int 1))) eNil)) (eCB lenD (Zb (eOp ixD (Za 2) (eC (.int 1))) eNil)))))) (Zy (eC (.bl false))) sNext)
noncomputable def Zmi:DL.Env->Option Out:=(Zq 7 (eOp ixD (Za 5) (eUn Vr (eC (.int 1)))))
noncomputable def Zi2:DL.Env->Option Bool:=(xB (eOp (Z6 λi j=>decide (j<i)) (eOp ixD (eOp ixD QG (eC (.int 1))) (eC (.int 0))) (eC (.int 1))))
noncomputable def Zi3:DL.Env->Option Out:=(Zq 8 (eCB ZZ (Zb (ZF (ZH (eOp ixD (Za 7) (eC (.int 0)))) (Zw 0) (λ_=>some true) (eC (.int 1)) 1 []) eNil)))
noncomputable def Zi4:DL.Env->Option Out:=(sIf (xOr (xB (eOp neD Je (eOp addX (Za 6) (eC (.int 2))))) (xB (eOp neD (Za 7) (Yi (Zb (eOp ixD QG (eC (.int 0))) (Zb (Za 8) (Zb (eOp ixD QG (eC (.int 2))) eNil))))))) (Zy (eC (.bl false))) sNext)
noncomputable def Zi5:DL.Env->Option Out:=(sIf (xB (eOp neD Je (eOp addX (Za 6) (eC (.int 1))))) (Zy (eC (.bl false))) sNext)
noncomputable def Zi6:DL.Env->Option D:=(eCB lenD (Zb (Za 0) eNil))
noncomputable def Zmj:DL.Env->Option Out:=(Zy (Vq (ZB 2 Zj4 [] (Zb (Za 7) (Zb (Za 1) eNil))) (Vq (ZB 1 Zj5 [] (Zb (Za 7) eNil)) (eOp (Z6 λi j=>decide (j<=i)) (eCB minQD (Zb (ZF (ZH (eOp ixD (Za 7) (eC (.int 2)))) (Zw 0) (λ_=>some true) Zi6 1 []) eNil)) (Za 1)))))
theorem Zj0:f_QY=Zf lw1 (Zf lw2 (Zf lw3 (Zf lw4 (Zf lw5 (Zf lw6 (Zf lw7 (Zf (Zq 6 (eC (.int 0))) (Zf (Xm lT lB9) (Zf Zmh (Zf Zmi (Zf (sIf Zi2 (Zf Zi3 Zi4) Zi5) Zmj))))))))))):=rfl
abbrev LX(ns:List Int)(n:Nat)(A:Wb)(Ts:List Wb)(v6 v7 v8:Option D):DL.Env:=[some (.lst (ns.map D.int)),some (nD n),some (tl A),some (wb A),some (.lst (Ts.map wb)),some (.lst (Ts.map tl)),v6,v7,v8]
section
variable{ns:List Int}{n m:Nat}{A:Wb}{Ts:List Wb}
theorem Za9{i:Nat}(hi:i<Ts.length)(v7 v8:Option D):QG (LX ns n A Ts (some (nD i)) v7 v8)=some (tl (Ts.getD i T0)):=(Zh (x:=.lst (Ts.map tl)) (y:=nD i) rfl rfl).trans (Vf (by
 rw [List.getElem?_map,List.getD_eq_getElem?_getD,List.getElem?_eq_getElem hi];rfl))
theorem Zcp(v6 v7 v8:Option D):Je (LX ns n A Ts v6 v7 v8)=some (nD Ts.length):=by
 refine(ZI (Zi (x:=.lst (Ts.map tl)) rfl nil_of)).trans ?_;show some (D.int ((Ts.map tl).length:Int))=_;rw [List.length_map]
theorem Jf(i:Nat)(v7 v8:Option D)(c:Nat):eOp addX (Za 6) (eC (.int (c:Nat))) (LX ns n A Ts (some (nD i)) v7 v8)=some (nD (i+c)):=by
 refine(Zh (x:=nD i) (y:=nD c) rfl rfl).trans ((add_int _ _).trans ?_);rw [show((i:Int)+(c:Int))=((i+c:Nat):Int) by push_cast;rfl]
theorem Zeb{i:Nat}(hi:i<Ts.length){M L:Nat}(e1:maxQD [WD (Ts.getD i T0).1]=some (nD M))(e2:minQD [WD (Ts.getD i T0).1]=some (nD L))(v7 v8:Option D):lAl (LX ns n A Ts (some (nD i)) v7 v8)=some (!decide (M=L)):=
 JO (ZN ((Ye (n:=1) (Zi (x:=WD (Ts.getD i T0).1) ((Zh (x:=tl (Ts.getD i T0)) (y:=.int 1) (Za9 hi _ _) rfl).trans rfl) nil_of) rfl).trans (Zfz e1 e2)))
def lM(k:Nat):DL.Env->Nat
 | [_,_,_,_,_,_,some (.int i),_,_]=>k-i.toNat
 |_=>0
theorem ZeP{F:Wb}(h:Ok n m F.1 F.2.1 F.2.2)(hr:∀r∈F.2.2,n<=r.length)(v6 v8:Option D):Zmj (LX ns n A Ts v6 (some (tl F)) v8)=some (.rt (.bl true)):=by
 have hm5:=h.m5;obtain⟨mn,e1,e2,_⟩:=ZeN (l:=F.2.2.map List.length) (by rw [List.length_map,h.ly];exact h.m1);obtain⟨r,hr1,e3⟩:=List.mem_map.mp e2;have hn:=hr r hr1;refine Yn (ZeE ((Ye (n:=2) (Zi rfl (Zi rfl nil_of)) rfl).trans (Zf9 h)) (ZeE ((Ye (n:=1) (Zi rfl nil_of) rfl).trans (Zh8 h)) ((Zh (x:=nD mn) (y:=nD n) ((ZI (Zi (Yx (δ0:=[none]) (xs:=F.2.2.map ZA) rfl rfl (ys:=(F.2.2.map List.length).map nD) ?_ ?_) nil_of)).trans e1) rfl).trans ?_)))
 · rw [List.map_map]
   refine YW (ε:=Zi6) ZA _ F.2.2 λr _=>⟨[some (ZA r)],rfl,(ZI (Zi (x:=ZA r) rfl nil_of)).trans ?_⟩
   show some (D.int ((r.map wyD).length:Int))=_;rw [List.length_map];rfl
 · rw [List.length_map,List.length_map,h.ly]
   omega
 · refine(ZjM n mn).trans ?_
   rw [decide_eq_true (by omega)]
end
theorem all_true(ns:List Int)(hl:ns.length<=63):Zj8 [.lst (ns.map D.int)]=some (.bl true):=by
 obtain⟨a,ea,ha⟩:=UP (ns.getD 0 0) (m:=6) (by decide);have hn1:1<=1+a:=by omega
 have hn6:1+a<=6:=by omega
 obtain⟨m,W,hs,Y,h0,hw⟩:=ZjT hl hn1 hn6;obtain⟨A,eA⟩:∃A:Wb,A=(W,hs,Y):=⟨_,rfl⟩
 have h:Ok (1+a) m A.1 A.2.1 A.2.2:=by rw [eA];exact h0
 have hw:Q8 [.lst (ns.map D.int),nD 2,nD (1+a)]=some (tl A):=by rw [eA];exact hw
 obtain⟨Us,B,M,r,g1,g2,g3,hf⟩:=ZcF h;have hB:=(r.inv h).1;have hsum:=(r.inv h).2;have hm5:=hB.m5;have hBl:=ZcG B.1 λx hx=>(hB.w1 x hx).1
 rw [hB.lw,hsum]at hBl;generalize hTs:Us++[B]++U6 (m+Us.length) M B=Ts at hf
 have hte:(U6 (m+Us.length) M B).length<=1:=by
  unfold U6
  by_cases z:1<M
  · rw [if_pos z];exact Nat.le_refl _
  · rw [if_neg z];exact Nat.zero_le _
 have hTl:Ts.length=Us.length+1+(U6 (m+Us.length) M B).length:=by rw [<-hTs,List.length_append,List.length_append];rfl
 have hTg:∀i,i<=Us.length->Ts.getD i T0=(Us++[B]).getD i T0:=λi hi=>by
  rw [<-hTs,List.getD_eq_getElem?_getD,List.getElem?_append_left (by rw [List.length_append,List.length_singleton];omega),<-List.getD_eq_getElem?_getD]
 have hT0:Ts.getD 0 T0=A:=(hTg 0 (Nat.zero_le _)).trans r.zero;have hTk:Ts.getD Us.length T0=B:=(hTg _ (Nat.le_refl _)).trans (ZaM _ _ _);refine YE (δ:=[some (.lst (ns.map D.int)),none,none,none,none,none,none,none,none]) rfl ?_;rw [Zj0]
 have t1:lw1 [some (.lst (ns.map D.int)),none,none,none,none,none,none,none,none]=some (.nx [some (.lst (ns.map D.int)),some (nD (1+a)),none,none,none,none,none,none,none]):=
  ZK ((Zh (x:=.int 1) (y:=nD a) rfl ((Zh ((Ye (n:=2) (Zi rfl (Zi (x:=nD 0) rfl nil_of)) rfl).trans (QB ns 0)) rfl).trans ea)).trans (Zcj a))
 have t2:lw2 [some (.lst (ns.map D.int)),some (nD (1+a)),none,none,none,none,none,none,none]=some (.nx [some (.lst (ns.map D.int)),some (nD (1+a)),some (tl A),none,none,none,none,none,none]):=
  ZK ((Ye (n:=3) (ds:=[.lst (ns.map D.int),nD 2,nD (1+a)]) (Zi rfl (Zi rfl (Zi rfl nil_of))) rfl).trans hw)
 have t3:lw3 [some (.lst (ns.map D.int)),some (nD (1+a)),some (tl A),none,none,none,none,none,none]=some (.nx [some (.lst (ns.map D.int)),some (nD (1+a)),some (tl A),some (wb A),none,none,none,none,none]):=
  ZK ((Ye (n:=2) (Zi rfl (Zi rfl nil_of)) rfl).trans (Zfs h ns))
 have t4:lw4 [some (.lst (ns.map D.int)),some (nD (1+a)),some (tl A),some (wb A),none,none,none,none,none]=some (.nx [some (.lst (ns.map D.int)),some (nD (1+a)),some (tl A),some (wb A),some (.lst (Ts.map wb)),none,none,none,none]):=
  ZK ((Ye (n:=2) (ds:=[wb A,nD (1+a)]) (Zi rfl (Zi rfl nil_of)) rfl).trans hf)
 have t5:lw5 [some (.lst (ns.map D.int)),some (nD (1+a)),some (tl A),some (wb A),some (.lst (Ts.map wb)),none,none,none,none]=some (.nx [some (.lst (ns.map D.int)),some (nD (1+a)),some (tl A),some (wb A),some (.lst (Ts.map wb)),none,none,none,none]):=by
  refine(Yo (V6 (JO (b:=true) (ZN (JS (d:=.lst (Ts.map wb)) rfl rfl))) (V6 (ZN ((Zh (x:=nD Ts.length) (y:=nD 0) ((ZI (Zi (x:=.lst (Ts.map wb)) rfl nil_of)).trans ?_) rfl).trans ((UN _ _).trans (by rw [decide_eq_false (by omega)])))) (ZN ((Zh (x:=tl A) (y:=tl A) ((Ye (n:=1) (Zi (x:=wb A) rfl nil_of) rfl).trans (ZeO A)) rfl).trans (JT rfl (Zaj h))))))).trans rfl;show some (D.int ((Ts.map wb).length:Int))=_
  rw [List.length_map]
 have t6:lw6 [some (.lst (ns.map D.int)),some (nD (1+a)),some (tl A),some (wb A),some (.lst (Ts.map wb)),none,none,none,none]=some (.nx (LX ns (1+a) A Ts none none none)):=
  ZK (Yx (δ0:=[none]) (xs:=Ts.map wb) rfl rfl (YW (ε:=Zmg) wb tl Ts λT _=>⟨[some (wb T)],rfl,(Ye (n:=1) (Zi rfl nil_of) rfl).trans (ZeO T)⟩) (by rw [List.length_map];omega))
 have t7:lw7 (LX ns (1+a) A Ts none none none)=some (.nx (LX ns (1+a) A Ts none none none)):=by
  refine(Yo (ZN ((Zh (x:=tl A) (y:=tl A) ((Zh (x:=.lst (Ts.map tl)) (y:=nD 0) rfl rfl).trans (Vf ?_)) rfl).trans (JT rfl (Zaj h))))).trans rfl;have h0l:0<Ts.length:=by omega
  rw [List.getElem?_map,List.getElem?_eq_getElem h0l];rw [List.getD_eq_getElem?_getD,List.getElem?_eq_getElem h0l]at hT0;exact congrArg (λz=>some (tl z)) hT0
 obtain⟨δ',h9,e9⟩:=JR (τ:=lT) (φ:=lB9) (λδ=>∃i,i<=Us.length/\δ=LX ns (1+a) A Ts (some (nD i)) none none) (λδ=>δ=LX ns (1+a) A Ts (some (nD Us.length)) none none) (lM Us.length) (by
  rintro δ ⟨i,hi,rfl⟩
  have hil:i<Ts.length:=by omega
  have c1:xB (eOp (Z6 λi j=>decide (i<j)) (eOp addX (Za 6) (eC (.int 1))) Je) (LX ns (1+a) A Ts (some (nD i)) none none)=some (decide (i+1<Ts.length)):=ZN ((Zh (Jf i none none 1) (Zcp _ _ _)).trans (QF _ _))
  by_cases e:i=Us.length
  · subst e
    have c2:=Zeb (ns:=ns) (n:=1+a) (A:=A) hil (by rw [hTk];exact g1) (by rw [hTk];exact g2) none none;refine .inl ⟨?_,rfl⟩;have:=Zh2 c1 c2
    rwa [decide_eq_true rfl,Bool.not_true,Bool.and_false]at this
  · have hlt:i<Us.length:=by omega
    obtain⟨m',M',place,picks,s⟩:=r.at i hlt;rw [<-hTg i hi,<-hTg (i+1) (by omega)]at s;obtain⟨L',l1,l2⟩:=s.al;have c2:=Zeb (ns:=ns) (n:=1+a) (A:=A) hil s.mx l1 none none;rw [decide_eq_false (λz=>l2 z.symm)]at c2;rw [decide_eq_true (by omega)]at c1
    have e1:eOp ixD (Za 5) (eOp addX (Za 6) (eC (.int 1))) (LX ns (1+a) A Ts (some (nD i)) none none)=some (tl (Ts.getD (i+1) T0)):=(Zh (x:=.lst (Ts.map tl)) (y:=nD (i+1)) rfl (Jf i none none 1)).trans (Vf (by
     rw [List.getElem?_map,List.getD_eq_getElem?_getD,List.getElem?_eq_getElem (show i+1<Ts.length by omega)];rfl))
    refine .inr ⟨UJ c1 c2,LX ns (1+a) A Ts (some (nD (i+1))) none none,?_,⟨i+1,by omega,rfl⟩,?_⟩
    · refine(Zu ((Yo (JO (b:=true) (ZN ((Ye (n:=3) (Zi (Za9 hil _ _) (Zi e1 (Zi rfl nil_of))) rfl).trans ?_)))).trans rfl)).trans ((ZK (Jf i none none 1)).trans rfl)
      have:=Zb1 s.ok s.pm s.pw s.mx s.ls s.gd;have e2:=s.eq;generalize Ts.getD (i+1) T0=C at e2;subst e2;exact this
    · show Us.length-(((i+1:Nat):Int)).toNat<Us.length-((i:Nat):Int).toNat
      rw [Int.toNat_natCast,Int.toNat_natCast];omega) (LX ns (1+a) A Ts (some (nD 0)) none none) ⟨0,Nat.zero_le _,rfl⟩
 subst e9
 have t10:Zmh (LX ns (1+a) A Ts (some (nD Us.length)) none none)=some (.nx (LX ns (1+a) A Ts (some (nD Us.length)) none none)):=by
  have c2:=Zeb (ns:=ns) (n:=1+a) (A:=A) (Ts:=Ts) (i:=Us.length) (by omega) (by rw [hTk];exact g1) (by rw [hTk];exact g2) none none;rw [decide_eq_true rfl]at c2
  have e1:sumTD [WD A.1]=some (.int (A.1.sum:Nat)):=by
   unfold sumTD WD;dsimp only;rw [U3];dsimp only;rw [Zbj]
  have e2:lenD [WD A.1]=some (nD m):=by
   show some (D.int ((A.1.map nD).length:Int))=_;rw [List.length_map,h.lw]
  refine(Yo (V6 c2 (ZN ((Zh (x:=nD Us.length) (y:=.int ((A.1.sum:Nat)-(m:Nat))) rfl ((Zh ((ZI (Zi (x:=WD A.1) rfl nil_of)).trans e1) ((ZI (Zi (x:=WD A.1) rfl nil_of)).trans e2)).trans rfl)).trans ?_)))).trans rfl;show some (D.bl (decide (((A.1.sum:Nat):Int)-(m:Int)<(Us.length:Int))))=_;rw [decide_eq_false (by omega)]
 have e0:B.1.getD 0 0=M:=g3 _ (hB.wt hB.m1).2;have c12:∀v7,Zi2 (LX ns (1+a) A Ts (some (nD Us.length)) v7 none)=some (decide (1<M)):=λv7=>ZN ((Zh (x:=nD M) (y:=nD 1) ((Zh (x:=WD B.1) (y:=nD 0) ((Zh (x:=tl B) (y:=.int 1) ((Za9 (by omega) _ _).trans (by rw [hTk])) rfl).trans rfl) rfl).trans ((Xg hB hB.m1).trans (by rw [e0]))) rfl).trans (QF 1 M))
 refine(Zu t1).trans ((Zu t2).trans ((Zu t3).trans ((Zu t4).trans ((Zu t5).trans ((Zu t6).trans ((Zu t7).trans ((Zu (δ':=LX ns (1+a) A Ts (some (nD 0)) none none) (ZK rfl)).trans ((Zu h9).trans ((Zu t10).trans ?_)))))))))
 have t11:∀{Vs:List Wb}{F:Wb},Ts=Vs++[F]->Zmi (LX ns (1+a) A Ts (some (nD Us.length)) none none)=some (.nx (LX ns (1+a) A Ts (some (nD Us.length)) (some (tl F)) none)):=λ{Vs F} e=>by
  refine(ZK (d:=tl F) ((Zh (x:=.lst (Ts.map tl)) (y:=.int (-1)) rfl rfl).trans ?_)).trans rfl;rw [e,List.map_append];exact ZcO _ _
 unfold U6 at hTs
 by_cases hM:1<M
 · rw [if_pos hM]at hTs
   have hk:Ts.length=Us.length+2:=by rw [<-hTs,List.length_append,List.length_append];rfl
   have hC:=Zin hB g3
   have t12:Zi3 (LX ns (1+a) A Ts (some (nD Us.length)) (some (.tup [HD B.2.1,WD (YK (m+Us.length)),YD B.2.2])) none)=some (.nx (LX ns (1+a) A Ts (some (nD Us.length)) (some (.tup [HD B.2.1,WD (YK (m+Us.length)),YD B.2.2])) (some (WD (YK (m+Us.length)))))):=by
    refine(ZK (d:=WD (YK (m+Us.length))) ((ZI (Zi (Yx (δ0:=[none]) (xs:=B.2.1.map D.int) rfl rfl (YW (ε:=eC (.int 1)) D.int (λ_=>nD 1) B.2.1 λx _=>⟨[some (.int x)],rfl,rfl⟩) (by rw [List.length_map,hB.lh];omega)) nil_of)).trans ?_)).trans rfl;show some (D.tup (B.2.1.map λ_=>nD 1))=some (.tup ((YK (m+Us.length)).map nD));rw [List.map_replicate,List.map_const',hB.lh]
   have t13:Zi4 (LX ns (1+a) A Ts (some (nD Us.length)) (some (.tup [HD B.2.1,WD (YK (m+Us.length)),YD B.2.2])) (some (WD (YK (m+Us.length)))))=some (.nx (LX ns (1+a) A Ts (some (nD Us.length)) (some (.tup [HD B.2.1,WD (YK (m+Us.length)),YD B.2.2])) (some (WD (YK (m+Us.length)))))):=by
    have er:=λv7 v8=>(Za9 (ns:=ns) (n:=1+a) (A:=A) (i:=Us.length) (show Us.length<Ts.length by omega) v7 v8).trans (congrArg (λz=>some (tl z)) hTk)
    refine(Yo (V6 (ZN ((Zh (Zcp _ _ _) (Jf Us.length _ _ 2)).trans ((X2 _ _).trans (by rw [hk,decide_eq_true rfl];rfl)))) (ZN ((Zh (x:=Zr (YK (m+Us.length)) B.2.1 B.2.2) (y:=Zr (YK (m+Us.length)) B.2.1 B.2.2) rfl (Vz (Zi ((Zh (x:=tl B) (y:=.int 0) (er _ _) rfl).trans rfl) (Zi rfl (Zi ((Zh (x:=tl B) (y:=.int 2) (er _ _) rfl).trans rfl) nil_of))) (by show 3<=1000;decide))).trans (JT rfl (Zaj hC)))))).trans rfl
   refine(Zu (t11 hTs.symm)).trans ((Zu ((XM ((c12 _).trans (by rw [decide_eq_true hM]))).trans ((Zu t12).trans t13))).trans ?_);exact ZeP (F:=(YK (m+Us.length),B.2.1,B.2.2)) hC (Zap hB g3) _ _
 · rw [if_neg hM,List.append_nil]at hTs
   have hk:Ts.length=Us.length+1:=by rw [<-hTs,List.length_append];rfl
   have t12:Zi5 (LX ns (1+a) A Ts (some (nD Us.length)) (some (tl B)) none)=some (.nx (LX ns (1+a) A Ts (some (nD Us.length)) (some (tl B)) none)):=
    (Yo (ZN ((Zh (Zcp _ _ _) (Jf Us.length _ _ 1)).trans ((X2 _ _).trans (by rw [hk,decide_eq_true rfl];rfl))))).trans rfl
   refine(Zu (t11 hTs.symm)).trans ((Zu ((Yo ((c12 _).trans (by rw [decide_eq_false hM]))).trans t12)).trans ?_);exact ZeP hB (Zap hB g3) _ _
end K39
namespace K39
open PySem PySem.Spec L2 DL
def ZfC(K:PySem.W.Frag):Sp:=λvs H Q _=>∃(a:Addr) (ns:List Int),vs=[.ref a]/\SqL K H a (ns.map V.int)/\ns.length<=63/\∀H',Q (.bl true) H'
theorem Zj1(hall:∀ns:List Int,ns.length<=63->Zj8 [.lst (ns.map D.int)]=some (.bl true)){P:Program}{w:World}{K:PySem.W.Frag}{mg:Str->Option Value}{base:Heap}{t:Adr}(T:Txt K mg t):FnOk P w K mg base CX0 6 t.a_QY t.d_QY ["script"] (ZfC K):=
 (Zlz T).imp λvs H Q E ⟨a,ns,hv,hr,hl,q⟩=>by
   subst hv;refine⟨λ_=>False,[.lst (ns.map D.int)],.bl true,λ_ z=>z.elim,.cons ?_ .nil,rfl,hall ns hl,λv H' _ r => ?_⟩
   · unfold Rep
     refine⟨a,_,rfl,λz=>z.elim,hr,?_⟩;have:=RepL.of_vals (cA:=⟨t.c,K⟩) (av:=λ_=>False) (H:=H) (xs:=ns.map D.int) (by rw [List.all_map];exact List.all_eq_true.mpr λ_ _=>rfl);rw [List.map_map]at this;exact this
   · cases(show v=_ from r)
     exact q H'
theorem all_mk (hall:∀ns:List Int,ns.length<=63->Zj8 [.lst (ns.map D.int)]=some (.bl true)) {l:PySem.W.OpenLaw} {w:World} {K:PySem.W.Frag} {h:Heap} {mg:Str->Option Value} {fa:Addr} (X:K.In h) (G:h.Ns mainGlobals mg) (hfa:mg "law" = some (.ref fa))
 {c_Web:Addr}
 {f0:Addr} {od0 an0:Option Addr} {sl0:Array (Option Value)} {oc0 kV0 dc0 pm0 cd0 ct0:Value}
 {f1:Addr} {od1 an1:Option Addr} {sl1:Array (Option Value)} {oc1 kV1 dc1 pm1 cd1 ct1:Value}
 {f2:Addr} {od2 an2:Option Addr} {sl2:Array (Option Value)} {oc2 kV2 dc2 pm2 cd2 ct2:Value}
 {f3:Addr} {od3 an3:Option Addr} {sl3:Array (Option Value)} {oc3 kV3 dc3 pm3 cd3 ct3:Value}
 {f4:Addr} {od4 an4:Option Addr} {sl4:Array (Option Value)} {oc4 kV4 dc4 pm4 cd4 ct4:Value}
 {f5:Addr} {od5 an5:Option Addr} {sl5:Array (Option Value)} {oc5 kV5 dc5 pm5 cd5 ct5:Value}
 {f6:Addr} {od6 an6:Option Addr} {sl6:Array (Option Value)} {oc6 kV6 dc6 pm6 cd6 ct6:Value}
 {f7:Addr} {od7 an7:Option Addr} {sl7:Array (Option Value)} {oc7 kV7 dc7 pm7 cd7 ct7:Value}
 {f8:Addr} {od8 an8:Option Addr} {sl8:Array (Option Value)} {oc8 kV8 dc8 pm8 cd8 ct8:Value}
 {f9:Addr} {od9 an9:Option Addr} {sl9:Array (Option Value)} {oc9 kV9 dc9 pm9 cd9 ct9:Value}
 {f10:Addr} {od10 an10:Option Addr} {sl10:Array (Option Value)} {oc10 kV10 dc10 pm10 cd10 ct10:Value}
 {f11:Addr} {od11 an11:Option Addr} {sl11:Array (Option Value)} {oc11 kV11 dc11 pm11 cd11 ct11:Value}
 {f12:Addr} {od12 an12:Option Addr} {sl12:Array (Option Value)} {oc12 kV12 dc12 pm12 cd12 ct12:Value}
 {f13:Addr} {od13 an13:Option Addr} {sl13:Array (Option Value)} {oc13 kV13 dc13 pm13 cd13 ct13:Value}
 {f14:Addr} {od14 an14:Option Addr} {sl14:Array (Option Value)} {oc14 kV14 dc14 pm14 cd14 ct14:Value}
 {f15:Addr} {od15 an15:Option Addr} {sl15:Array (Option Value)} {oc15 kV15 dc15 pm15 cd15 ct15:Value}
 {f16:Addr} {od16 an16:Option Addr} {sl16:Array (Option Value)} {oc16 kV16 dc16 pm16 cd16 ct16:Value}
 {f17:Addr} {od17 an17:Option Addr} {sl17:Array (Option Value)} {oc17 kV17 dc17 pm17 cd17 ct17:Value}
 {f18:Addr} {od18 an18:Option Addr} {sl18:Array (Option Value)} {oc18 kV18 dc18 pm18 cd18 ct18:Value}
 {f19:Addr} {od19 an19:Option Addr} {sl19:Array (Option Value)} {oc19 kV19 dc19 pm19 cd19 ct19:Value}
 {f20:Addr} {od20 an20:Option Addr} {sl20:Array (Option Value)} {oc20 kV20 dc20 pm20 cd20 ct20:Value}
 {f21:Addr} {od21 an21:Option Addr} {sl21:Array (Option Value)} {oc21 kV21 dc21 pm21 cd21 ct21:Value}
 {f22:Addr} {od22 an22:Option Addr} {sl22:Array (Option Value)} {oc22 kV22 dc22 pm22 cd22 ct22:Value}
 {f23:Addr} {od23 an23:Option Addr} {sl23:Array (Option Value)} {oc23 kV23 dc23 pm23 cd23 ct23:Value}
 {f24:Addr} {od24 an24:Option Addr} {sl24:Array (Option Value)} {oc24 kV24 dc24 pm24 cd24 ct24:Value}
 (Znb:nsIn K mainGlobals "Web" = some (some (.ref c_Web)))
 (a0:nsIn K mainGlobals "kept_ways" = some (some (.ref f0)))
 (l0:K.lookup f0=some ⟨oc0,od0,.func (fnOf "kept_ways" "kept_ways" (defArgs Vg) (defBody Vg) (defScope Vg) .none kV0 dc0 pm0 an0 cd0 ct0),sl0⟩)
 (c0:codeIn K cd0 "kept_ways" = true)
 (k0:keepIn K (.ref f0)=true)
 (a1:PySem.W.findIn K (.ref c_Web) "__init__" = some (some (.ref f1)))
 (l1:K.lookup f1=some ⟨oc1,od1,.func (fnOf "__init__" "Web.__init__" (defArgs VC) (defBody VC) (defScope VC) .none kV1 dc1 pm1 an1 cd1 ct1),sl1⟩)
 (c1:codeIn K cd1 "Web.__init__" = true)
 (k1:keepIn K (.ref f1)=true)
 (a2:PySem.W.findIn K (.ref c_Web) "many" = some (some (.ref f2)))
 (l2:K.lookup f2=some ⟨oc2,od2,.func (fnOf "many" "Web.many" (defArgs V9) (defBody V9) (defScope V9) .none kV2 dc2 pm2 an2 cd2 ct2),sl2⟩)
 (c2:codeIn K cd2 "Web.many" = true)
 (k2:keepIn K (.ref f2)=true)
 (a3:nsIn K mainGlobals "all_alike" = some (some (.ref f3)))
 (l3:K.lookup f3=some ⟨oc3,od3,.func (fnOf "all_alike" "all_alike" (defArgs Ua) (defBody Ua) (defScope Ua) .none kV3 dc3 pm3 an3 cd3 ct3),sl3⟩)
 (c3:codeIn K cd3 "all_alike" = true)
 (k3:keepIn K (.ref f3)=true)
 (a4:nsIn K mainGlobals "lesser_way" = some (some (.ref f4)))
 (l4:K.lookup f4=some ⟨oc4,od4,.func (fnOf "lesser_way" "lesser_way" (defArgs Ub) (defBody Ub) (defScope Ub) .none kV4 dc4 pm4 an4 cd4 ct4),sl4⟩)
 (c4:codeIn K cd4 "lesser_way" = true)
 (k4:keepIn K (.ref f4)=true)
 (a5:nsIn K mainGlobals "even_piece" = some (some (.ref f5)))
 (l5:K.lookup f5=some ⟨oc5,od5,.func (fnOf "even_piece" "even_piece" (defArgs Uc) (defBody Uc) (defScope Uc) .none kV5 dc5 pm5 an5 cd5 ct5),sl5⟩)
 (c5:codeIn K cd5 "even_piece" = true)
 (k5:keepIn K (.ref f5)=true)
 (a6:nsIn K mainGlobals "choice" = some (some (.ref f6)))
 (l6:K.lookup f6=some ⟨oc6,od6,.func (fnOf "choice" "choice" (defArgs XO) (defBody XO) (defScope XO) .none kV6 dc6 pm6 an6 cd6 ct6),sl6⟩)
 (c6:codeIn K cd6 "choice" = true)
 (k6:keepIn K (.ref f6)=true)
 (a7:nsIn K mainGlobals "doubled" = some (some (.ref f7)))
 (l7:K.lookup f7=some ⟨oc7,od7,.func (fnOf "doubled" "doubled" (defArgs VD) (defBody VD) (defScope VD) .none kV7 dc7 pm7 an7 cd7 ct7),sl7⟩)
 (c7:codeIn K cd7 "doubled" = true)
 (k7:keepIn K (.ref f7)=true)
 (a8:nsIn K mainGlobals "split" = some (some (.ref f8)))
 (l8:K.lookup f8=some ⟨oc8,od8,.func (fnOf "split" "split" (defArgs XQ) (defBody XQ) (defScope XQ) .none kV8 dc8 pm8 an8 cd8 ct8),sl8⟩)
 (c8:codeIn K cd8 "split" = true)
 (k8:keepIn K (.ref f8)=true)
 (a9:nsIn K mainGlobals "evened" = some (some (.ref f9)))
 (l9:K.lookup f9=some ⟨oc9,od9,.func (fnOf "evened" "evened" (defArgs Ud) (defBody Ud) (defScope Ud) .none kV9 dc9 pm9 an9 cd9 ct9),sl9⟩)
 (c9:codeIn K cd9 "evened" = true)
 (k9:keepIn K (.ref f9)=true)
 (a10:nsIn K mainGlobals "finished" = some (some (.ref f10)))
 (l10:K.lookup f10=some ⟨oc10,od10,.func (fnOf "finished" "finished" (defArgs Ue) (defBody Ue) (defScope Ue) .none kV10 dc10 pm10 an10 cd10 ct10),sl10⟩)
 (c10:codeIn K cd10 "finished" = true)
 (k10:keepIn K (.ref f10)=true)
 (a11:nsIn K mainGlobals "_law_cell_at" = some (some (.ref f11)))
 (l11:K.lookup f11=some ⟨oc11,od11,.func (fnOf "_law_cell_at" "_law_cell_at" (defArgs Uf) (defBody Uf) (defScope Uf) .none kV11 dc11 pm11 an11 cd11 ct11),sl11⟩)
 (c11:codeIn K cd11 "_law_cell_at" = true)
 (k11:keepIn K (.ref f11)=true)
 (a12:nsIn K mainGlobals "_law_block" = some (some (.ref f12)))
 (l12:K.lookup f12=some ⟨oc12,od12,.func (fnOf "_law_block" "_law_block" (defArgs Ug) (defBody Ug) (defScope Ug) .none kV12 dc12 pm12 an12 cd12 ct12),sl12⟩)
 (c12:codeIn K cd12 "_law_block" = true)
 (k12:keepIn K (.ref f12)=true)
 (a13:nsIn K mainGlobals "_law_borne" = some (some (.ref f13)))
 (l13:K.lookup f13=some ⟨oc13,od13,.func (fnOf "_law_borne" "_law_borne" (defArgs VH) (defBody VH) (defScope VH) .none kV13 dc13 pm13 an13 cd13 ct13),sl13⟩)
 (c13:codeIn K cd13 "_law_borne" = true)
 (k13:keepIn K (.ref f13)=true)
 (a14:nsIn K mainGlobals "_law_named" = some (some (.ref f14)))
 (l14:K.lookup f14=some ⟨oc14,od14,.func (fnOf "_law_named" "_law_named" (defArgs Uh) (defBody Uh) (defScope Uh) .none kV14 dc14 pm14 an14 cd14 ct14),sl14⟩)
 (c14:codeIn K cd14 "_law_named" = true)
 (k14:keepIn K (.ref f14)=true)
 (a15:nsIn K mainGlobals "_law_web" = some (some (.ref f15)))
 (l15:K.lookup f15=some ⟨oc15,od15,.func (fnOf "_law_web" "_law_web" (defArgs X1) (defBody X1) (defScope X1) .none kV15 dc15 pm15 an15 cd15 ct15),sl15⟩)
 (c15:codeIn K cd15 "_law_web" = true)
 (k15:keepIn K (.ref f15)=true)
 (a16:nsIn K mainGlobals "_law_handed" = some (some (.ref f16)))
 (l16:K.lookup f16=some ⟨oc16,od16,.func (fnOf "_law_handed" "_law_handed" (defArgs VL) (defBody VL) (defScope VL) .none kV16 dc16 pm16 an16 cd16 ct16),sl16⟩)
 (c16:codeIn K cd16 "_law_handed" = true)
 (k16:keepIn K (.ref f16)=true)
 (a17:nsIn K mainGlobals "_law_bears" = some (some (.ref f17)))
 (l17:K.lookup f17=some ⟨oc17,od17,.func (fnOf "_law_bears" "_law_bears" (defArgs VN) (defBody VN) (defScope VN) .none kV17 dc17 pm17 an17 cd17 ct17),sl17⟩)
 (c17:codeIn K cd17 "_law_bears" = true)
 (k17:keepIn K (.ref f17)=true)
 (a18:nsIn K mainGlobals "_law_come_to" = some (some (.ref f18)))
 (l18:K.lookup f18=some ⟨oc18,od18,.func (fnOf "_law_come_to" "_law_come_to" (defArgs Ui) (defBody Ui) (defScope Ui) .none kV18 dc18 pm18 an18 cd18 ct18),sl18⟩)
 (c18:codeIn K cd18 "_law_come_to" = true)
 (k18:keepIn K (.ref f18)=true)
 (a19:nsIn K mainGlobals "_law_tied" = some (some (.ref f19)))
 (l19:K.lookup f19=some ⟨oc19,od19,.func (fnOf "_law_tied" "_law_tied" (defArgs Uj) (defBody Uj) (defScope Uj) .none kV19 dc19 pm19 an19 cd19 ct19),sl19⟩)
 (c19:codeIn K cd19 "_law_tied" = true)
 (k19:keepIn K (.ref f19)=true)
 (a20:nsIn K mainGlobals "_law_told" = some (some (.ref f20)))
 (l20:K.lookup f20=some ⟨oc20,od20,.func (fnOf "_law_told" "_law_told" (defArgs Uk) (defBody Uk) (defScope Uk) .none kV20 dc20 pm20 an20 cd20 ct20),sl20⟩)
 (c20:codeIn K cd20 "_law_told" = true)
 (k20:keepIn K (.ref f20)=true)
 (a21:nsIn K mainGlobals "_law_twice" = some (some (.ref f21)))
 (l21:K.lookup f21=some ⟨oc21,od21,.func (fnOf "_law_twice" "_law_twice" (defArgs Ul) (defBody Ul) (defScope Ul) .none kV21 dc21 pm21 an21 cd21 ct21),sl21⟩)
 (c21:codeIn K cd21 "_law_twice" = true)
 (k21:keepIn K (.ref f21)=true)
 (a22:nsIn K mainGlobals "_law_one_split" = some (some (.ref f22)))
 (l22:K.lookup f22=some ⟨oc22,od22,.func (fnOf "_law_one_split" "_law_one_split" (defArgs Xn) (defBody Xn) (defScope Xn) .none kV22 dc22 pm22 an22 cd22 ct22),sl22⟩)
 (c22:codeIn K cd22 "_law_one_split" = true)
 (k22:keepIn K (.ref f22)=true)
 (a23:nsIn K mainGlobals "_law_alike" = some (some (.ref f23)))
 (l23:K.lookup f23=some ⟨oc23,od23,.func (fnOf "_law_alike" "_law_alike" (defArgs Um) (defBody Um) (defScope Um) .none kV23 dc23 pm23 an23 cd23 ct23),sl23⟩)
 (c23:codeIn K cd23 "_law_alike" = true)
 (k23:keepIn K (.ref f23)=true)
 (a24:nsIn K mainGlobals "law" = some (some (.ref f24)))
 (l24:K.lookup f24=some ⟨oc24,od24,.func (fnOf "law" "law" (defArgs Xo) (defBody Xo) (defScope Xo) .none kV24 dc24 pm24 an24 cd24 ct24),sl24⟩)
 (c24:codeIn K cd24 "law" = true)
 (k24:keepIn K (.ref f24)=true)
 (Znc:nsIn K mainGlobals "all" = some none)
 (Znd:nsIn K mainGlobals "enumerate" = some none)
 (Zne:nsIn K mainGlobals "isinstance" = some none)
 (Znf:nsIn K mainGlobals "len" = some none)
 (Zng:nsIn K mainGlobals "list" = some none)
 (Znh:nsIn K mainGlobals "max" = some none)
 (Zni:nsIn K mainGlobals "min" = some none)
 (Znj:nsIn K mainGlobals "range" = some none)
 (Znk:nsIn K mainGlobals "sorted" = some none)
 (Znl:nsIn K mainGlobals "sum" = some none)
 (Znm:nsIn K mainGlobals "tuple" = some none)
 (Zm8:PySem.W.plainGet K c_Web Str.empty=true)
 (ZmJ:PySem.W.hasDictIn K c_Web=true)
 (Zm9:PySem.W.plainOver K c_Web=true)
 (Zna:PySem.W.findIn K (.ref c_Web) "__setattr__" = some (some (.builtin "object.__setattr__")))
 (ZmI:PySem.W.findIn K (.ref c_Web) "__class__" = some (some (.builtin "object.__class__")))
 (ZmK:PySem.W.mroIn K c_Web (.type "object")=some true)
 (Zm3:PySem.W.makesIn K c_Web=true)
 (ZmZ:keepIn K (.ref c_Web)=true)
 (Zm2:PySem.W.findIn K (.ref c_Web) "__init__" = some (some (.ref f1)))
 (Zm1:isFn K (.ref f1)=true)
 (hn_:PySem.W.specialIn K (.builtin "object.__class__") "__get__" = some (some (.builtin "getset_descriptor.__get__")))
 (htk_:PySem.W.takesIn K (.builtin "object.__class__")=some true)
 (Zm5:PySem.W.findIn K (.ref c_Web) "homes" = some none)
 (Zm6:PySem.W.findIn K (.ref c_Web) "ways" = some none)
 (Zm7:PySem.W.findIn K (.ref c_Web) "weights" = some none)
 (Zm0:PySem.W.findIn K (.ref c_Web) "many" = some (some (.ref f2)))
 (Zm4:isFn K (.ref f2)=true)
 (ZmL:kitOne K (.type "NoneType") (.type "list")=some false)
 (ZmP:kitOne K (.type "bool") (.type "list")=some false)
 (ZmR:kitOne K (.type "int") (.type "list")=some false)
 (ZmV:kitOne K (.type "str") (.type "list")=some false)
 (ZmT:kitOne K (.type "list") (.type "list")=some true)
 (ZmX:kitOne K (.type "tuple") (.type "list")=some false)
 (ZmN:kitOne K (.ref c_Web) (.type "list")=some false)
 (ZmM:kitOne K (.type "NoneType") (.type "tuple")=some false)
 (ZmQ:kitOne K (.type "bool") (.type "tuple")=some false)
 (ZmS:kitOne K (.type "int") (.type "tuple")=some false)
 (ZmW:kitOne K (.type "str") (.type "tuple")=some false)
 (ZmU:kitOne K (.type "list") (.type "tuple")=some false)
 (ZmY:kitOne K (.type "tuple") (.type "tuple")=some true)
 (ZmO:kitOne K (.ref c_Web) (.type "tuple")=some false)
 : ∃fd:FuncData,(∀(s:Shared)(v:Value),BindsTo s fd ⟨[v],[]⟩ [("script",v)])/\∀base:Heap,K.In base->base.Ns mainGlobals mg->FnOk l.prog w K mg base CX0 6 fa fd ["script"] (ZfC K):=by
 have e:=hfa.symm.trans (mg_of X G a24);cases e;have F0:FunX K "kept_ways" "kept_ways" Vg f0 _:=(ZL (st:=Vg) l0 c0 k0).x;have b0:=(ZL (st:=Vg) l0 c0 k0).binds (ps:=["ways"]) λ_ _ _ _ _ _ us hl=>match us,hl with|[_],_=>rfl
 have F1:FunX K "__init__" "Web.__init__" VC f1 _:=(ZL (st:=VC) l1 c1 k1).x;have b1:=(ZL (st:=VC) l1 c1 k1).binds (ps:=["self", "homes", "weights", "ways"]) λ_ _ _ _ _ _ us hl=>match us,hl with|[_,_,_,_],_=>rfl
 have F2:FunX K "many" "Web.many" V9 f2 _:=(ZL (st:=V9) l2 c2 k2).x;have b2:=(ZL (st:=V9) l2 c2 k2).binds (ps:=["self"]) λ_ _ _ _ _ _ us hl=>match us,hl with|[_],_=>rfl
 have F3:FunX K "all_alike" "all_alike" Ua f3 _:=(ZL (st:=Ua) l3 c3 k3).x;have b3:=(ZL (st:=Ua) l3 c3 k3).binds (ps:=["web"]) λ_ _ _ _ _ _ us hl=>match us,hl with|[_],_=>rfl
 have F4:FunX K "lesser_way" "lesser_way" Ub f4 _:=(ZL (st:=Ub) l4 c4 k4).x;have b4:=(ZL (st:=Ub) l4 c4 k4).binds (ps:=["web", "place"]) λ_ _ _ _ _ _ us hl=>match us,hl with|[_,_],_=>rfl
 have F5:FunX K "even_piece" "even_piece" Uc f5 _:=(ZL (st:=Uc) l5 c5 k5).x;have b5:=(ZL (st:=Uc) l5 c5 k5).binds (ps:=["numbers", "n"]) λ_ _ _ _ _ _ us hl=>match us,hl with|[_,_],_=>rfl
 have F6:FunX K "choice" "choice" XO f6 _:=(ZL (st:=XO) l6 c6 k6).x;have b6:=(ZL (st:=XO) l6 c6 k6).binds (ps:=["web", "n"]) λ_ _ _ _ _ _ us hl=>match us,hl with|[_,_],_=>rfl
 have F7:FunX K "doubled" "doubled" VD f7 _:=(ZL (st:=VD) l7 c7 k7).x;have b7:=(ZL (st:=VD) l7 c7 k7).binds (ps:=["ways", "place", "new"]) λ_ _ _ _ _ _ us hl=>match us,hl with|[_,_,_],_=>rfl
 have F8:FunX K "split" "split" XQ f8 _:=(ZL (st:=XQ) l8 c8 k8).x;have b8:=(ZL (st:=XQ) l8 c8 k8).binds (ps:=["web", "n", "place", "picks"]) λ_ _ _ _ _ _ us hl=>match us,hl with|[_,_,_,_],_=>rfl
 have F9:FunX K "evened" "evened" Ud f9 _:=(ZL (st:=Ud) l9 c9 k9).x;have b9:=(ZL (st:=Ud) l9 c9 k9).binds (ps:=["web"]) λ_ _ _ _ _ _ us hl=>match us,hl with|[_],_=>rfl
 have F10:FunX K "finished" "finished" Ue f10 _:=(ZL (st:=Ue) l10 c10 k10).x;have b10:=(ZL (st:=Ue) l10 c10 k10).binds (ps:=["web", "n"]) λ_ _ _ _ _ _ us hl=>match us,hl with|[_,_],_=>rfl
 have F11:FunX K "_law_cell_at" "_law_cell_at" Uf f11 _:=(ZL (st:=Uf) l11 c11 k11).x;have b11:=(ZL (st:=Uf) l11 c11 k11).binds (ps:=["script", "k"]) λ_ _ _ _ _ _ us hl=>match us,hl with|[_,_],_=>rfl
 have F12:FunX K "_law_block" "_law_block" Ug f12 _:=(ZL (st:=Ug) l12 c12 k12).x;have b12:=(ZL (st:=Ug) l12 c12 k12).binds (ps:=["k"]) λ_ _ _ _ _ _ us hl=>match us,hl with|[_],_=>rfl
 have F13:FunX K "_law_borne" "_law_borne" VH f13 _:=(ZL (st:=VH) l13 c13 k13).x;have b13:=(ZL (st:=VH) l13 c13 k13).binds (ps:=["weights", "rows", "place", "n"]) λ_ _ _ _ _ _ us hl=>match us,hl with|[_,_,_,_],_=>rfl
 have F14:FunX K "_law_named" "_law_named" Uh f14 _:=(ZL (st:=Uh) l14 c14 k14).x;have b14:=(ZL (st:=Uh) l14 c14 k14).binds (ps:=["row", "twice"]) λ_ _ _ _ _ _ us hl=>match us,hl with|[_,_],_=>rfl
 have F15:FunX K "_law_web" "_law_web" X1 f15 _:=(ZL (st:=X1) l15 c15 k15).x;have b15:=(ZL (st:=X1) l15 c15 k15).binds (ps:=["script", "at", "n"]) λ_ _ _ _ _ _ us hl=>match us,hl with|[_,_,_],_=>rfl
 have F16:FunX K "_law_handed" "_law_handed" VL f16 _:=(ZL (st:=VL) l16 c16 k16).x;have b16:=(ZL (st:=VL) l16 c16 k16).binds (ps:=["script", "told"]) λ_ _ _ _ _ _ us hl=>match us,hl with|[_,_],_=>rfl
 have F17:FunX K "_law_bears" "_law_bears" VN f17 _:=(ZL (st:=VN) l17 c17 k17).x;have b17:=(ZL (st:=VN) l17 c17 k17).binds (ps:=["told", "n"]) λ_ _ _ _ _ _ us hl=>match us,hl with|[_,_],_=>rfl
 have F18:FunX K "_law_come_to" "_law_come_to" Ui f18 _:=(ZL (st:=Ui) l18 c18 k18).x;have b18:=(ZL (st:=Ui) l18 c18 k18).binds (ps:=["ways", "place"]) λ_ _ _ _ _ _ us hl=>match us,hl with|[_,_],_=>rfl
 have F19:FunX K "_law_tied" "_law_tied" Uj f19 _:=(ZL (st:=Uj) l19 c19 k19).x;have b19:=(ZL (st:=Uj) l19 c19 k19).binds (ps:=["told"]) λ_ _ _ _ _ _ us hl=>match us,hl with|[_],_=>rfl
 have F20:FunX K "_law_told" "_law_told" Uk f20 _:=(ZL (st:=Uk) l20 c20 k20).x;have b20:=(ZL (st:=Uk) l20 c20 k20).binds (ps:=["web"]) λ_ _ _ _ _ _ us hl=>match us,hl with|[_],_=>rfl
 have F21:FunX K "_law_twice" "_law_twice" Ul f21 _:=(ZL (st:=Ul) l21 c21 k21).x;have b21:=(ZL (st:=Ul) l21 c21 k21).binds (ps:=["row", "place", "new"]) λ_ _ _ _ _ _ us hl=>match us,hl with|[_,_,_],_=>rfl
 have F22:FunX K "_law_one_split" "_law_one_split" Xn f22 _:=(ZL (st:=Xn) l22 c22 k22).x;have b22:=(ZL (st:=Xn) l22 c22 k22).binds (ps:=["one", "two", "n"]) λ_ _ _ _ _ _ us hl=>match us,hl with|[_,_,_],_=>rfl
 have F23:FunX K "_law_alike" "_law_alike" Um f23 _:=(ZL (st:=Um) l23 c23 k23).x;have b23:=(ZL (st:=Um) l23 c23 k23).binds (ps:=["weights"]) λ_ _ _ _ _ _ us hl=>match us,hl with|[_],_=>rfl
 have F24:FunX K "law" "law" Xo fa _:=(ZL (st:=Xo) l24 c24 k24).x;have b24:=(ZL (st:=Xo) l24 c24 k24).binds (ps:=["script"]) λ_ _ _ _ _ _ us hl=>match us,hl with|[_],_=>rfl
 have T:Txt K mg { a_QP:=f0,d_QP:=_,a_QS:=f1,d_QS:=_,a_QQ:=f2,d_QQ:=_,a_QN:=f3,d_QN:=_,a_QE:=f4,d_QE:=_,a_QH:=f5,d_QH:=_,a_QV:=f6,d_QV:=_,a_QU:=f7,d_QU:=_,a_QX:=f8,d_QX:=_,a_QW:=f9,d_QW:=_,a_QT:=f10,d_QT:=_,a_QB:=f11,d_QB:=_,a_QL:=f12,d_QL:=_,a_QK:=f13,d_QK:=_,a_QF:=f14,d_QF:=_,a_QR:=f15,d_QR:=_,a_QD:=f16,d_QD:=_,a_QG:=f17,d_QG:=_,a_QC:=f18,d_QC:=_,a_QM:=f19,d_QM:=_,a_QO:=f20,d_QO:=_,a_QJ:=f21,d_QJ:=_,a_QA:=f22,d_QA:=_,a_QI:=f23,d_QI:=_,a_QY:=fa,d_QY:=_,c_Web:=c_Web }:={ f_QP:=F0,b_QP:=b0,g_QP:=mg_of X G a0,k_QP:=k0,f_QS:=F1,b_QS:=b1,k_QS:=k1,f_QQ:=F2,b_QQ:=b2,k_QQ:=k2,f_QN:=F3,b_QN:=b3,g_QN:=mg_of X G a3,k_QN:=k3,f_QE:=F4,b_QE:=b4,g_QE:=mg_of X G a4,k_QE:=k4,f_QH:=F5,b_QH:=b5,g_QH:=mg_of X G a5,k_QH:=k5,f_QV:=F6,b_QV:=b6,g_QV:=mg_of X G a6,k_QV:=k6,f_QU:=F7,b_QU:=b7,g_QU:=mg_of X G a7,k_QU:=k7,f_QX:=F8,b_QX:=b8,g_QX:=mg_of X G a8,k_QX:=k8,f_QW:=F9,b_QW:=b9,g_QW:=mg_of X G a9,k_QW:=k9,f_QT:=F10,b_QT:=b10,g_QT:=mg_of X G a10,k_QT:=k10,f_QB:=F11,b_QB:=b11,g_QB:=mg_of X G a11,k_QB:=k11,f_QL:=F12,b_QL:=b12,g_QL:=mg_of X G a12,k_QL:=k12,f_QK:=F13,b_QK:=b13,g_QK:=mg_of X G a13,k_QK:=k13,f_QF:=F14,b_QF:=b14,g_QF:=mg_of X G a14,k_QF:=k14,f_QR:=F15,b_QR:=b15,g_QR:=mg_of X G a15,k_QR:=k15,f_QD:=F16,b_QD:=b16,g_QD:=mg_of X G a16,k_QD:=k16,f_QG:=F17,b_QG:=b17,g_QG:=mg_of X G a17,k_QG:=k17,f_QC:=F18,b_QC:=b18,g_QC:=mg_of X G a18,k_QC:=k18,f_QM:=F19,b_QM:=b19,g_QM:=mg_of X G a19,k_QM:=k19,f_QO:=F20,b_QO:=b20,g_QO:=mg_of X G a20,k_QO:=k20,f_QJ:=F21,b_QJ:=b21,g_QJ:=mg_of X G a21,k_QJ:=k21,f_QA:=F22,b_QA:=b22,g_QA:=mg_of X G a22,k_QA:=k22,f_QI:=F23,b_QI:=b23,g_QI:=mg_of X G a23,k_QI:=k23,f_QY:=F24,b_QY:=b24,g_QY:=mg_of X G a24,k_QY:=k24,n_all:=mg_none_of X G Znc,n_enumerate:=mg_none_of X G Znd,n_isinstance:=mg_none_of X G Zne,n_len:=mg_none_of X G Znf,n_list:=mg_none_of X G Zng,n_max:=mg_none_of X G Znh,n_min:=mg_none_of X G Zni,n_range:=mg_none_of X G Znj,n_sorted:=mg_none_of X G Znk,n_sum:=mg_none_of X G Znl,n_tuple:=mg_none_of X G Znm,g_Web:=mg_of X G Znb,cl_Web:=⟨Zm8,ZmJ,Zm9,Zna⟩,ci_Web:=⟨⟨Zm8,ZmJ,Zm9,Zna⟩,ZmI,hn_,htk_,ZmK⟩,mk_Web:=⟨Zm3,Zm2,Zm1,ZmZ⟩,fl_homes:=(by intro c hc;simp only [XZ,List.mem_cons,List.mem_nil_iff,or_false]at hc;rcases hc with rfl<;>first|exact⟨⟨Zm8,ZmJ,Zm9,Zna⟩,Zm5⟩),fl_ways:=(by intro c hc;simp only [Y6,List.mem_cons,List.mem_nil_iff,or_false]at hc;rcases hc with rfl<;>first|exact⟨⟨Zm8,ZmJ,Zm9,Zna⟩,Zm6⟩),fl_weights:=(by intro c hc;simp only [Yj,List.mem_cons,List.mem_nil_iff,or_false]at hc;rcases hc with rfl<;>first|exact⟨⟨Zm8,ZmJ,Zm9,Zna⟩,Zm7⟩),me_Web_many:=⟨Zm0,Zm4,k2⟩,isi_list:=Zes (by intro p hp;simp only [JY,List.mem_cons,List.mem_nil_iff,or_false]at hp;rcases hp with rfl|rfl|rfl|rfl|rfl|rfl|rfl<;>first|exact ZmL|exact ZmP|exact ZmR|exact ZmV|exact ZmT|exact ZmX|exact⟨ZmN,⟨Zm8,ZmJ,Zm9,Zna⟩,ZmI,hn_,htk_,ZmK⟩),isi_tuple:=Zes (by intro p hp;simp only [Q7,List.mem_cons,List.mem_nil_iff,or_false]at hp;rcases hp with rfl|rfl|rfl|rfl|rfl|rfl|rfl<;>first|exact ZmM|exact ZmQ|exact ZmS|exact ZmW|exact ZmU|exact ZmY|exact⟨ZmO,⟨Zm8,ZmJ,Zm9,Zna⟩,ZmI,hn_,htk_,ZmK⟩) }
 exact⟨fnOf "law" "law" (defArgs Xo) (defBody Xo) (defScope Xo) .none kV24 dc24 pm24 an24 cd24 ct24,λs v => .of_eq rfl,λbase _ _=>Zj1 hall T⟩
theorem walk {l:PySem.W.OpenLaw} {q:Program} {loose:List Str} {XP:(Str->Option Value)->Heap->Prop} {YP:World->Heap->Prop} {d:DefRec} {K:Params->PySem.W.Frag} (hn:l.most=some 63) (hdf:d.params.defaults=[])
 (hY:∀(w:World)(h:Heap),YP w h->(K w.params).In h)
 (F:∀(w:World)(mg:Str->Option Value)(fa:Addr)(h:Heap),(K w.params).In h->h.Ns mainGlobals mg->mg d.name=some (.ref fa) ->
   ∃fd:FuncData,(∀(s:Shared)(u:Value),BindsTo s fd ⟨[u],[]⟩ [("script",u)])/\∀base:Heap,(K w.params).In base->base.Ns mainGlobals mg->FnOk l.prog w (K w.params) mg base CX0 6 fa fd ["script"] (ZfC (K w.params))) :
 PySem.W.WalkO q loose XP YP l.row.toRowW d [] (λf vs=>PySem.call f vs):=
 L2.walk_of (n:=63) (k:=6) (x:="script") (CX:=λ_=>CX0) (sp:=λw=>ZfC (K w.params)) hn (by decide) hdf ⟨rfl,by decide,by decide⟩ hY F (λ_ _ a ns hl _ hS=>⟨a,ns,rfl,hS,hl,λ_=>rfl⟩) λ_ _ _ _ _ z=>z
end K39
open PySem PySem.W PyProof.Rows
set_option maxRecDepth 100000 in
set_option maxHeartbeats 0 in
theorem PySem.Challenge.cw_grooveway_k39_whole_webs_finished_holds : PySem.Challenge.rw_grooveway_k39_whole_webs_finished.Holds := by
 w_on;o_law
 refine holds_open (r:=PySem.Challenge.rw_grooveway_k39_whole_webs_finished.row) (q:=(view PySem.Challenge.pw_grooveway_k39_whole_webs_finished [1,2,4,5,6,7,8,9,10,11,13,14,15,16,17,18,19,20,21,22,23,24,25,26])) (loose:=[]) (XP:=XL (view PySem.Challenge.pw_grooveway_k39_whole_webs_finished [1,2,4,5,6,7,8,9,10,11,13,14,15,16,17,18,19,20,21,22,23,24,25,26]) []) (YP:=InK K39.kP) K39.left (InK.of K39.kP_as) InK.keeps (λs e=>xl_of s (Bool.and_eq_true_iff.mp e).1) XL.keeps (by rfl) (by rfl) (by rfl) (λs e=>recFacts_of (Bool.and_eq_true_iff.mp e).2) (by rfl) (by assumption) (by decide +kernel) ⟨rfl,rfl,rfl,rfl,rfl,by decide +kernel⟩ ?hw ?hc
 case hw=>w_witness2
 k_fill
 refine K39.walk (l:=PySem.Challenge.rw_grooveway_k39_whole_webs_finished) rfl rfl (λw h Y=>Y) ?F
 case F=>
  intro w mg fa h KX G hmg;refine' K39.all_mk K39.all_true KX G hmg ?Znb ?a0 ?l0 ?c0 ?k0 ?a1 ?l1 ?c1 ?k1 ?a2 ?l2 ?c2 ?k2 ?a3 ?l3 ?c3 ?k3 ?a4 ?l4 ?c4 ?k4 ?a5 ?l5 ?c5 ?k5 ?a6 ?l6 ?c6 ?k6 ?a7 ?l7 ?c7 ?k7 ?a8 ?l8 ?c8 ?k8 ?a9 ?l9 ?c9 ?k9 ?a10 ?l10 ?c10 ?k10 ?a11 ?l11 ?c11 ?k11 ?a12 ?l12 ?c12 ?k12 ?a13 ?l13 ?c13 ?k13 ?a14 ?l14 ?c14 ?k14 ?a15 ?l15 ?c15 ?k15 ?a16 ?l16 ?c16 ?k16 ?a17 ?l17 ?c17 ?k17 ?a18 ?l18 ?c18 ?k18 ?a19 ?l19 ?c19 ?k19 ?a20 ?l20 ?c20 ?k20 ?a21 ?l21 ?c21 ?k21 ?a22 ?l22 ?c22 ?k22 ?a23 ?l23 ?c23 ?k23 ?a24 ?l24 ?c24 ?k24 ?Znc ?Znd ?Zne ?Znf ?Zng ?Znh ?Zni ?Znj ?Znk ?Znl ?Znm ?Zm8 ?ZmJ ?Zm9 ?Zna ?ZmI ?ZmK ?Zm3 ?ZmZ ?Zm2 ?Zm1 ?hn_ ?htk_ ?Zm5 ?Zm6 ?Zm7 ?Zm0 ?Zm4 ?ZmL ?ZmP ?ZmR ?ZmV ?ZmT ?ZmX ?ZmN ?ZmM ?ZmQ ?ZmS ?ZmW ?ZmU ?ZmY ?ZmO
  (case Znb|a0|l0|c0|k0|a1|l1|c1|k1|a2|l2|c2|k2|a3|l3|c3|k3|a4|l4|c4|k4|a5|l5|c5|k5|a6|l6|c6|k6|a7|l7|c7|k7|a8|l8|c8|k8|a9|l9|c9|k9|a10|l10|c10|k10|a11|l11|c11|k11|a12|l12|c12|k12|a13|l13|c13|k13|a14|l14|c14|k14|a15|l15|c15|k15|a16|l16|c16|k16|a17|l17|c17|k17|a18|l18|c18|k18|a19|l19|c19|k19|a20|l20|c20|k20|a21|l21|c21|k21|a22|l22|c22|k22|a23|l23|c23|k23|a24|l24|c24|k24|Znc|Znd|Zne|Znf|Zng|Znh|Zni|Znj|Znk|Znl|Znm|Zm8|ZmJ|Zm9|Zna|ZmI|ZmK|Zm3|ZmZ|Zm2|Zm1|hn_|htk_|Zm5|Zm6|Zm7|Zm0|Zm4=>k_is)
  (case ZmL|ZmP|ZmR|ZmV|ZmT|ZmX|ZmN|ZmM|ZmQ|ZmS|ZmW|ZmU|ZmY|ZmO=>kit_is)
