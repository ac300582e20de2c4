import PyProof.Rows.All
import Wide.All
import OpenK.AllK
import Wide.FinOn
import Lean
import PyProof.EqAt
import PyProof.EqKinds
import PyProof.TupleCall
import PyProof.Rows.StrCountLaw
import PyProof.Rows.StrFirst
import PyProof.Rows.StrLast
import PyProof.Rows.StrNews2
import PyProof.Rows.StrSplitCount
import PyProof.StrBlockI
import PyProof.StrLawsIn
import PyProof.StrLawsLast
import PyProof.EnumMake
import PyProof.FString
import PyProof.ReprStr
import PyProof.StrLawsRepr
import PyProof.ListStr
import PyProof.ListRange
import PySem.Challenge.RW_grooveway_k44_whole_read_back
set_option Elab.async false
set_option linter.all false
set_option maxRecDepth 100000
set_option maxHeartbeats 4000000
open PySem.W (keepIn nsIn mg_of fnOf codeIn kitOne mg_none_of isFn instObj emptyDict)
namespace L2
open PySem PySem.Spec PyProof.Rows
abbrev Key:=Sum Int Str
def Uu:Key->Value->Bool
 | .inl k,v=>Value.isInt k v
 | .inr x,v=>Value.isStrOf x v
def ZkJ(w:World):Key->Int
 | .inl k=>hashInt k
 | .inr x=>hashStr w x
theorem Vd:∀{k:Key}{v:Value},Uu k v=true->(∃i t,k=Sum.inl i/\v=Value.int i t)\/(∃x t,k=Sum.inr x/\v=Value.str x t)
 | .inl i,v,h=>by
  obtain⟨t,e⟩:=Value.isInt_shape (k:=i) (v:=v) h;exact .inl ⟨i,t,rfl,e⟩
 | .inr x,v,h=>by
  obtain⟨t,e⟩:=Value.isStrOf_shape (x:=x) (v:=v) h;exact .inr ⟨x,t,rfl,e⟩
theorem Zdz(i:Int)(t:Tok):Uu (.inl i) (.int i t)=true:=by simp [Uu,Value.isInt]
theorem ZdA(x:Str)(t:Tok):Uu (.inr x) (.str x t)=true:=by simp [Uu,Value.isStrOf]
theorem ZhO(a b:Int):decide ((Sum.inl a:Key)=Sum.inl b)=(a == b):=by
 by_cases e:a=b
 · subst e;simp
 · have h:¬(Sum.inl a:Key)=Sum.inl b:=λq=>e (Sum.inl.inj q)
   rw [decide_eq_false h];exact(beq_eq_false_iff_ne.mpr e).symm
theorem ZhP(a b:Str):decide ((Sum.inr a:Key)=Sum.inr b)=decide (a=b):=by
 by_cases e:a=b
 · subst e;simp
 · have h:¬(Sum.inr a:Key)=Sum.inr b:=λq=>e (Sum.inr.inj q)
   rw [decide_eq_false h,decide_eq_false e]
theorem ZhQ(a:Int)(b:Str):decide ((Sum.inl a:Key)=Sum.inr b)=false:=decide_eq_false (λq=>nomatch q)
theorem ZhR(a:Str)(b:Int):decide ((Sum.inr a:Key)=Sum.inl b)=false:=decide_eq_false (λq=>nomatch q)
def YT(prog:Program)(w:World):PySem.KeyKind prog w Key where
 is:=Uu
 hash:=ZkJ w
 inj:=λv a b ha hb=>by
  rcases Vd ha with⟨i,t,rfl,rfl⟩|⟨x,t,rfl,rfl⟩
  · rcases Vd hb with⟨j,u,rfl,e⟩|⟨y,u,rfl,e⟩
    · injection e with e1 _;rw [e1]
    · exact nomatch e
  · rcases Vd hb with⟨j,u,rfl,e⟩|⟨y,u,rfl,e⟩
    · exact nomatch e
    · injection e with e1 _;rw [e1]
 byValue:=λk v h=>by
  rcases Vd h with⟨i,t,rfl,rfl⟩|⟨x,t,rfl,rfl⟩<;>rfl
 pyHash:=λhv h=>by
  rcases Vd hv with⟨i,t,rfl,rfl⟩|⟨x,t,rfl,rfl⟩
  · exact wpAny_pyHash_int h
  · exact wpAny_pyHash_str h
 eqBool:=λhu hv h=>by
  rcases Vd hu with⟨i,t,rfl,rfl⟩|⟨x,t,rfl,rfl⟩
  · rcases Vd hv with⟨j,u,rfl,rfl⟩|⟨y,u,rfl,rfl⟩
    · rw [ZhO]at h;exact wpAny_eqBool_int h
    · rw [ZhQ]at h;exact SeqAt.EqAt.int_str i t y u _ _ _ _ h
  · rcases Vd hv with⟨j,u,rfl,rfl⟩|⟨y,u,rfl,rfl⟩
    · rw [ZhR]at h;exact SeqAt.EqAt.str_int x t j u _ _ _ _ h
    · rw [ZhP]at h;exact wpAny_eqBool_str h
 «strs» := λk x t v h=>by
  rcases Vd h with⟨i,u,rfl,e⟩|⟨y,u,rfl,e⟩
  · exact nomatch e
  · injection e with e1 _
    subst e1;cases v<;>rfl
theorem Zbq(prog:Program)(w:World)(i:Int)(t:Tok):(YT prog w).is (.inl i) (.int i t)=true:=Zdz i t
theorem Zbr(prog:Program)(w:World)(x:Str)(t:Tok):(YT prog w).is (.inr x) (.str x t)=true:=ZdA x t
end L2
namespace L2
open PySem PySem.Spec PyProof.Rows
inductive V where
 |non|bl (b:Bool)|int (i:Int)|str (x:Str)|byt (b:Array UInt8)|flt (b:UInt64)|ref (a:Addr)|ty (n:String)
 deriving DecidableEq
def RelV:V->Value->Prop
 | .non,u=>u=Value.none
 | .bl b,u=>u=Value.bool b
 | .int i,u=>∃t,u=Value.int i t
 | .str x,u=>∃t,u=Value.str x t
 | .byt b,u=>∃t,u=Value.bytes b t
 | .flt b,u=>∃t,u=Value.float b t
 | .ref a,u=>u=Value.ref a
 | .ty n,u=>u=Value.type n
abbrev Vals:List V->List Value->Prop:=Paired RelV
theorem Vals.length{xs:List V}{us:List Value}(r:Vals xs us):xs.length=us.length:=Paired.length r
theorem Vals.get:∀{xs:List V}{us:List Value}{i:Nat}{x:V},Vals xs us->xs[i]? = some x->∃u,us[i]? = some u/\RelV x u
 |_,_,_,_,.nil,e=>by simp at e
 |_,_,0,_,.cons r _,e=>by simp at e;subst e;exact⟨_,rfl,r⟩
 |_,_,i+1,x,.cons _ t,e=>by
  obtain⟨u,h1,h2⟩:=Vals.get (i:=i) (x:=x) t (by simpa using e);exact⟨u,by simpa using h1,h2⟩
theorem Vals.set{x:V}{u:Value}(r:RelV x u):∀{xs:List V}{us:List Value}(i:Nat),Vals xs us->Vals (xs.set i x) (us.set i u)
 |_,_,_,.nil => .nil
 |_,_,0,.cons _ t => .cons r t
 |_,_,i+1,.cons q t => .cons q (Vals.set r i t)
theorem Vals.append:∀{xs ys:List V}{us ws:List Value},Vals xs us->Vals ys ws->Vals (xs++ys) (us++ws)
 |_,_,_,_,.nil,s=>s
 |_,_,_,_,.cons r t,s => .cons r (Vals.append t s)
theorem Vals.take:∀{xs:List V}{us:List Value}(n:Nat),Vals xs us->Vals (xs.take n) (us.take n)
 |_,_,0,_ => .nil
 |_,_,_+1,.nil => .nil
 |_,_,n+1,.cons r t => .cons r (Vals.take n t)
theorem Vals.drop:∀{xs:List V}{us:List Value}(n:Nat),Vals xs us->Vals (xs.drop n) (us.drop n)
 |_,_,0,r=>r
 |_,_,_+1,.nil => .nil
 |_,_,n+1,.cons _ t=>Vals.drop n t
def RelO:Option V->Option Value->Prop
 |some v,some u=>RelV v u
 |none,none=>True
 |_,_=>False
def KV{κ:Type}:List (κ×V)->List (κ×Value)->Prop:=Paired λ(p:κ×V) (q:κ×Value)=>p.1=q.1/\RelV p.2 q.2
def kV:Key->V
 | .inl i => .int i
 | .inr x => .str x
inductive HO where
 |lst (xs:List V)
 |tup (xs:List V)
 |dK (kvs:List (Key×V))|dT (kvs:List (List Key×V))
 |set (S:Int->Bool) (n:Nat)
 |ins (C dx:Addr) (fs:List (Str×V))
 |own (x:Addr)
 |xd (fs:List (Str×V))
 |met (f x:Addr)
 |rng (lo hi:Int)
 |frz (o:Obj) (u:HO)
 |tbl (ps:Array Value)
 |ext (φ:Heap->Prop)
abbrev Hp:=Addr->Option HO
def upd(H:Hp)(a:Addr)(o:HO):Hp:=λb=>if b=a then some o else H b
theorem ZL{H:Hp}{a:Addr}{o:HO}:upd H a o a=some o:=by unfold upd;rw [if_pos rfl]
theorem Zs{H:Hp}{a b:Addr}{o:HO}(h:b≠a):upd H a o b=H b:=by unfold upd;rw [if_neg h]
theorem ZiS{H:Hp}{a b:Addr}{o u:HO}(h:H a=some o)(h':H b=some u)(d:o≠u):a≠b:=by
 intro e;subst e;rw [h]at h';exact d (Option.some.inj h')
theorem YU{H:Hp}{a b:Addr}{o:HO}(h:H a=some o)(h':H b=none):a≠b:=by
 intro e;subst e;rw [h]at h';cases h'
def TupN(h:Heap)(a:Addr)(its:Array Value):Prop:=∃o,h.get? a=some o/\o.cls = .type "tuple" /\ (∃n,o.data = .seq its n)/\o.dict=none
theorem TupN.tup{h:Heap}{a:Addr}{its:Array Value}(x:TupN h a its):IsTup h a its:=let⟨o,e,c,d,_⟩:=x;⟨o,e,c,d⟩
theorem TupN.new(h:Heap)(its:Array Value):TupN (h.push { cls := .type "tuple",data := .seq its }) h.objs.size its:=⟨_,Heap.get?_push_size _ rfl,rfl,⟨_,rfl⟩,rfl⟩
section
variable(P:Program)(w:World)
def ObjOk(H:Hp)(h:Heap)(a:Addr):HO->Prop
 | .lst xs=>xs.length<=sizeLine/\∃(its:List Value) (n:Nat),Vals xs its/\h.get? a=some { cls := .type "list",data := .seq its.toArray n }
 | .tup xs=>xs.length<=sizeLine/\∃its:List Value,Vals xs its/\TupN h a its.toArray
 | .dK kvs=>kvs.length<=sizeLine/\(a == sysModules)=false/\∃vs,KV kvs vs/\h.DictOf (YT P w) a vs
 | .dT kvs=>kvs.length<=sizeLine/\(a == sysModules)=false/\∃xs:List (List Key×Addr×Value),
  Paired (λ(p:List Key×V) (q:List Key×Addr×Value)=>p.1=q.1/\H q.2.1=some (.tup (p.1.map kV))/\RelV p.2 q.2.2) kvs xs /\
  ∃o es ep,h.get? a=some o/\o.ExactDict/\o.data = .dict es ep/\es.toList=xs.map (entryOfKey (tupleKind (YT P w)))/\(xs.map (·.1)).Nodup
 | .set S n=>h.SetOf (intKind P w) a S n
 | .ins C dx fs=>H dx=some (.own a)/\fs.length<=1000/\dx≠a/\h.get? a=some (instObj C dx) /\
  ∃mA,h.Ns1 dx mA/\(∀f,RelO (fs.lookup f) (mA f))/\PySem.Within mA (fs.map (·.1))
 | .own _=>∃o,h.get? a=some o
 | .xd fs=>∃mA,h.Ns1 a mA/\∀f,RelO (fs.lookup f) (mA f)
 | .rng lo hi=>∃t u v,h.get? a=some { cls := .type "range",data := .fields #[.int lo t,.int hi u,.int 1 v] }
 | .frz o u=>h.get? a=some o/\ObjOk H h a u
 | .tbl ps=>h.get? a=some { cls := .none,data := .fields ps }
 | .met f x=>h.get? a=some (PySem.W.methodObj (.ref f) (.ref x))
 | .ext φ=>φ h/\(∃o,h.get? a=some o)/\∀h1 h2:Heap,φ h1->(∀o,h1.get? a=some o->h2.get? a=some o)->φ h2
def HOk(H:Hp)(h:Heap):Prop:=∀a o,H a=some o->ObjOk P w H h a o
end
section
variable{P:Program}{w:World}{H H':Hp}{h h':Heap}{a:Addr}{o:HO}
theorem ObjOk.lt(x:ObjOk P w H h a o):a<h.objs.size:=by
 cases o with
 |lst xs=>obtain⟨_,_,_,_,e⟩:=x;exact Heap.lt_size e
 |tup xs=>obtain⟨_,_,_,p⟩:=x;exact p.tup.lt
 |dK kvs=>obtain⟨_,_,_,_,o,_,_,e,_⟩:=x;exact Heap.lt_size e
 |dT kvs=>obtain⟨_,_,_,_,o,_,_,e,_⟩:=x;exact Heap.lt_size e
 |set S n=>obtain⟨o,_,_,_,e,_⟩:=x;exact Heap.lt_size e
 |ins C dx fs=>obtain⟨_,_,_,e,_⟩:=x;exact Heap.lt_size e
 |own y=>obtain⟨_,e⟩:=x;exact Heap.lt_size e
 |xd fs=>obtain⟨_,⟨_,_,_,e,_⟩,_⟩:=x;exact Heap.lt_size e
 |rng lo hi=>obtain⟨_,_,_,e⟩:=x;exact Heap.lt_size e
 |frz ob u=>obtain⟨e,_⟩:=x;exact Heap.lt_size e
 |tbl ps=>exact Heap.lt_size (show h.get? a=some _ from x)
 |met f y=>exact Heap.lt_size (show h.get? a=some _ from x)
 |ext φ=>obtain⟨_,⟨_,e⟩,_⟩:=x;exact Heap.lt_size e
theorem Paired.mapP{α β:Type}{F G:α->β->Prop}:∀{l₁:List α}{l₂:List β},Paired F l₁ l₂->(∀a b,F a b->G a b)->Paired G l₁ l₂
 |_,_,.nil,_ => .nil
 |_,_,.cons r t,f => .cons (f _ _ r) (Paired.mapP t f)
theorem ObjOk.stay (x:ObjOk P w H h a o) (k:∀b u,(b=a\/H b=some (.own a))->h.get? b=some u->h'.get? b=some u)
 (ho:∀b,H b=some (.own a)->H' b=some (.own a)) (ht:∀b xs,H b=some (.tup xs)->H' b=some (.tup xs)):ObjOk P w H' h' a o:=by
 induction o with
 |lst xs=>obtain⟨z,its,n,r,e⟩:=x;exact⟨z,its,n,r,k _ _ (.inl rfl) e⟩
 |tup xs=>obtain⟨z,its,r,ob,e,c⟩:=x;exact⟨z,its,r,ob,k _ _ (.inl rfl) e,c⟩
 |dK kvs=>obtain⟨z,y,vs,r,ob,es,ep,e,c⟩:=x;exact⟨z,y,vs,r,ob,es,ep,k _ _ (.inl rfl) e,c⟩
 |dT kvs=>
  obtain⟨z,y,xs,r,ob,es,ep,e,c⟩:=x;exact⟨z,y,xs,Paired.mapP r λp q z=>⟨z.1,ht _ _ z.2.1,z.2.2⟩,ob,es,ep,k _ _ (.inl rfl) e,c⟩
 |set S n=>obtain⟨ob,es,ep,t,e,c⟩:=x;exact⟨ob,es,ep,t,k _ _ (.inl rfl) e,c⟩
 |ins C dx fs=>
  obtain⟨d,z,ne,e,mA,⟨od,es,ep,e2,c⟩,r⟩:=x;exact⟨ho _ d,z,ne,k _ _ (.inl rfl) e,mA,⟨od,es,ep,k _ _ (.inr d) e2,c⟩,r⟩
 |own y=>obtain⟨ob,e⟩:=x;exact⟨ob,k _ _ (.inl rfl) e⟩
 |xd fs=>obtain⟨mA,⟨od,es,ep,e,c⟩,r⟩:=x;exact⟨mA,⟨od,es,ep,k _ _ (.inl rfl) e,c⟩,r⟩
 |rng lo hi=>obtain⟨t,u,v,e⟩:=x;exact⟨t,u,v,k _ _ (.inl rfl) e⟩
 |frz ob u ih=>obtain⟨e,q⟩:=x;exact⟨k _ _ (.inl rfl) e,ih q⟩
 |tbl ps=>
  have e:h.get? a=some { cls := .none,data := .fields ps }:=x;show h'.get? a=some { cls := .none,data := .fields ps };exact k a _ (.inl rfl) e
 |met f y=>
  have e:h.get? a=some (PySem.W.methodObj (.ref f) (.ref y)):=x;show h'.get? a=some (PySem.W.methodObj (.ref f) (.ref y));exact k a _ (.inl rfl) e
 |ext φ=>obtain⟨p,⟨o,e⟩,st⟩:=x;exact⟨st _ _ p λo q=>k _ _ (.inl rfl) q,⟨o,k _ _ (.inl rfl) e⟩,st⟩
theorem HOk.lt(x:HOk P w H h)(e:H a=some o):a<h.objs.size:=(x a o e).lt
theorem HOk.fresh(x:HOk P w H h)(e:h.objs.size<=a):H a=none:=by
 cases q:H a with
 |none=>rfl
 |some u=>exact absurd (Nat.lt_of_lt_of_le (x.lt q) e) (Nat.lt_irrefl _)
theorem HOk.kept(x:HOk P w H h)(k:∀b u,h.get? b=some u->h'.get? b=some u):HOk P w H h':=λa o e=>
 (x a o e).stay (λb u _ q=>k b u q) (λ_ q=>q) λ_ _ q=>q
theorem HOk.laid(x:HOk P w H h)(k:∀b u,h.get? b=some u->h'.get? b=some u)(hp:h.objs.size<=a)(new:ObjOk P w (upd H a o) h' a o):HOk P w (upd H a o) h':=λb u e=>by
 have hn:=x.fresh hp
 by_cases hb:b=a
 · subst hb;rw [ZL]at e;cases e;exact new
 · rw [Zs hb]at e
   exact(x b u e).stay (λc v _ q=>k c v q) (λc q=>by rw [Zs (YU q hn)];exact q) λc xs q=>by rw [Zs (YU q hn)];exact q
end
def Rd(H:Hp)(a:Addr)(u:HO):Prop:=H a=some u\/∃o,H a=some (.frz o u)
theorem Rd.ok{P:Program}{w:World}{H:Hp}{h:Heap}{a:Addr}{u:HO}(r:Rd H a u)(x:HOk P w H h):ObjOk P w H h a u:=by
 rcases r with r|⟨o,r⟩
 · exact x a u r
 · obtain⟨_,q⟩:=x a _ r
   exact q
def Mut:Option HO->Prop
 |some (.lst _)=>True
 |some (.dK _)=>True
 |some (.dT _)=>True
 |some (.set _ _)=>True
 |some (.ins _ _ _)=>True
 |some (.ext _)=>True
 |_=>False
section
variable{P:Program}{w:World}{H:Hp}{h h':Heap}{x e:Addr}{o':HO}
theorem HOk.write (ok:HOk P w H h) (mu:Mut (H x)) (he:e=x\/H e=some (.own x)) (k:∀b u,b≠e->h.get? b=some u->h'.get? b=some u) (heo:∃u,h'.get? e=some u)
 (new:ObjOk P w (upd H x o') h' x o'):HOk P w (upd H x o') h':=λb u q=>by
 have nown:∀c y,H c=some (.own y)->c≠x:=λc y r z=>by subst z;rw [r]at mu;exact mu
 have ntup:∀c xs,H c=some (.tup xs)->c≠x:=λc xs r z=>by subst z;rw [r]at mu;exact mu
 by_cases hb:b=x
 · subst hb;rw [ZL]at q;cases q;exact new
 · rw [Zs hb]at q
   by_cases hbe:b=e
   · have q' : H b = some (.own x) := by
      rcases he with z|z
      · exact absurd (hbe.trans z) hb
      · rw [hbe];exact z
     rw [q]at q';cases q';obtain⟨v,hv⟩:=heo;exact⟨v,by rw [hbe];exact hv⟩
   · refine(ok b u q).stay (λc v hc r=>k c v ?_ r) (λc r=>by rw [Zs (nown c b r)];exact r) λc xs r=>by rw [Zs (ntup c xs r)];exact r
     rcases hc with rfl|hc
     · exact hbe
     · rintro rfl
       rcases he with z|z
       · exact nown c b hc z
       · rw [hc]at z;cases z;exact hb rfl
end
structure Un(fs ex:List Addr)(H H':Hp)(h h':Heap):Prop where
 keep:∀b o,h.get? b=some o->H b=none->b∉fs->b∉ex->h'.get? b=some o
 slot:∀b o,h.get? b=some o->H b=none->b∈fs->b∉ex->∃sl,h'.get? b=some { o with slots:=sl }
 free:∀b o,h.get? b=some o->H b=none->b∉ex->H' b=none
 there:∀b o,h.get? b=some o->b∉ex->∃o',h'.get? b=some o'
 tups:∀b xs,H b=some (.tup xs)->H' b=some (.tup xs)
 frzs:∀b o u,H b=some (.frz o u)->H' b=some (.frz o u)
 tbls:∀b ps,H b=some (.tbl ps)->∃more,H' b=some (.tbl (ps++more))
section
variable{fs fs' ex ex':List Addr}{H H1 H2:Hp}{h h1 h2 h':Heap}{a x e:Addr}{o:HO}
theorem Un.any(u:Un fs ex H H1 h h1){b:Addr}{ob:Obj}(q:h.get? b=some ob)(n:H b=none)(hx:b∉ex):∃sl,h1.get? b=some { ob with slots:=sl }:=by
 by_cases hb:b∈fs
 · exact u.slot b ob q n hb hx
 · exact⟨ob.slots,u.keep b ob q n hb hx⟩
theorem Un.trans(a:Un fs ex H H1 h h1)(b:Un fs ex H1 H2 h1 h2):Un fs ex H H2 h h2 where
 keep:=λc ob q n hc hx=>b.keep c ob (a.keep c ob q n hc hx) (a.free c ob q n hx) hc hx
 slot:=λc ob q n hc hx=>by
  obtain⟨sl,e1⟩:=a.slot c ob q n hc hx;obtain⟨sl',e2⟩:=b.slot c _ e1 (a.free c ob q n hx) hc hx;exact⟨sl',e2⟩
 free:=λc ob q n hx=>by
  obtain⟨o',e1⟩:=a.there c ob q hx;exact b.free c o' e1 (a.free c ob q n hx) hx
 there:=λc ob q hx=>by
  obtain⟨o',e1⟩:=a.there c ob q hx;exact b.there c o' e1 hx
 tups:=λc xs q=>b.tups c xs (a.tups c xs q)
 frzs:=λc ob xs q=>b.frzs c ob xs (a.frzs c ob xs q)
 tbls:=λc ps q=>by
  obtain⟨m1,e1⟩:=a.tbls c ps q;obtain⟨m2,e2⟩:=b.tbls c _ e1;exact⟨m1++m2,by rw [e2,Array.append_assoc]⟩
theorem Un.kept(k:∀b u,h.get? b=some u->h'.get? b=some u):Un fs ex H H h h':=
 ⟨λb ob q _ _ _=>k b ob q,λb ob q _ _ _=>⟨ob.slots,k b ob q⟩,λ_ _ _ n _=>n,λb ob q _=>⟨ob,k b ob q⟩,λ_ _ q=>q,λ_ _ _ q=>q,λ_ ps q=>⟨#[],by rw [q];simp⟩⟩
theorem Un.refl:Un fs ex H H h h:=Un.kept λ_ _ q=>q
theorem Un.laid(k:∀b u,h.get? b=some u->h'.get? b=some u)(hp:h.objs.size<=a)(hn:H a=none):Un fs ex H (upd H a o) h h' where
 keep:=λb u q _ _ _=>k b u q
 slot:=λb u q _ _ _=>⟨u.slots,k b u q⟩
 free:=λb u q n _=>by rw [Zs (Nat.ne_of_lt (Nat.lt_of_lt_of_le (Heap.lt_size q) hp))];exact n
 there:=λb u q _=>⟨u,k b u q⟩
 tups:=λb xs q=>by rw [Zs (YU q hn)];exact q
 frzs:=λb u xs q=>by rw [Zs (YU q hn)];exact q
 tbls:=λb ps q=>⟨#[],by rw [Zs (YU q hn),q];simp⟩
theorem Un.write(mu:Mut (H x))(he:e=x\/H e=some (.own x))(k:∀b u,b≠e->h.get? b=some u->h'.get? b=some u)(heo:∃u,h'.get? e=some u):Un fs ex H (upd H x o) h h':=by
 have hx:∀b,H b=none->b≠x:=λb n z=>by subst z;rw [n]at mu;exact mu
 have hb:∀b,H b=none->b≠e:=λb n z=>by
  subst z;rcases he with r|r
  · exact hx b n r
  · rw [n]at r;cases r
 have hm:∀b u,H b=some u->¬Mut (some u)->b≠x:=λb u q nm z=>by subst z;rw [q]at mu;exact nm mu
 refine⟨λb u q n _ _=>k b u (hb b n) q,λb u q n _ _=>⟨u.slots,k b u (hb b n) q⟩,λb u q n _=>by rw [Zs (hx b n)];exact n,λb u q _ => ?_,
  λb xs q=>by rw [Zs (hm b _ q λz=>z)];exact q,λb u xs q=>by rw [Zs (hm b _ q λz=>z)];exact q,λb ps q=>⟨#[],by rw [Zs (hm b _ q λz=>z),q];simp⟩⟩
 by_cases hbe:b=e
 · subst hbe;exact heo
 · exact⟨u,k b u hbe q⟩
end
def trk(h:Heap)(H:Hp):List Addr:=(List.range h.objs.size).filter λa=>(H a).isSome
def Ve(h:Heap)(H:Hp):Heap:=PySem.W.hideAll h (trk h H)
theorem ZdB(h:Heap)(H:Hp):(Ve h H).objs.size=h.objs.size:=PySem.W.hideAll_size _ _
theorem Zeh{h:Heap}{H:Hp}{b:Addr}{o:Obj}(e:h.get? b=some o)(n:H b=none):(Ve h H).get? b=some o:=
 PySem.W.hideAll_get _ e λhm=>by
  have q:(H b).isSome=true:=(List.mem_filter.mp hm).2;rw [n]at q;simp at q
theorem ZfW{h:Heap}{H:Hp}{b:Addr}{o:Obj}(e:(Ve h H).get? b=some o):h.get? b=some o/\H b=none:=by
 have e':h.get? b=some o:=PySem.W.of_hideAll (trk h H) e;refine⟨e',?_⟩;cases q:H b with
 |none=>rfl
 |some x=>
  have hm:b∈trk h H:=List.mem_filter.mpr ⟨List.mem_range.mpr (Heap.lt_size e'),by simp [q]⟩;have z:(Ve h H).get? b=none:=PySem.W.hideAll_none (trk h H) hm;rw [z]at e;cases e
end L2
namespace L2
open PySem PySem.Spec PyProof.Rows
structure Mod(K:PySem.W.Frag)(mg:Str->Option Value)(base:Heap):Prop where
 kin:K.In base
 glob:base.Ns mainGlobals mg
 blt:∃mb,base.Ns builtinsNs mb/\∀x:Str,x ≠ "__name__" -> mb x=bootBuiltins x
 nolimit:base.NoLimit
structure Cx where
 prog:Program
 w:World
 K:PySem.W.Frag
 mg:Str->Option Value
 base:Heap
 A:Around
 N:List Str
 s₀:Shared
 H₀:Hp
 env:Env
 outer:List Env
 stack:List Env
 ex:List Addr
 fn:Str->Bool
 calm:Bool
 pn:List (Addr×Obj)
 xe:Value->Shared->Prop
def frs(l:List Env):List Addr:=l.filterMap (·.frame)
abbrev Cx.fs(X:Cx):List Addr:=frs X.outer
def Vis(sc:Scope)(x:Str):Prop:=sc.names.lookup x=some .local\/sc.names.lookup x=some .cell\/sc.names.lookup x=some .free
def Loc(sc:Scope)(x:Str):Prop:=sc.names.lookup x=some .local\/sc.names.lookup x=some .cell
def Zka(env:Env)(h:Heap)(m:Str->Option Value)(x:Str)(u:Value):Prop:=
 (env.kindOf x=some .local/\m x=some u)\/((env.kindOf x=some .cell\/env.kindOf x=some .free)/\∃c,env.cells.lookup x=some c/\h.IsCell c (some u))
structure Cx.Ok(X:Cx):Prop where
 mod:Mod X.K X.mg X.base
 kind:X.env.scope.kind = .function
 glob:X.env.globals=mainGlobals
 blt:X.env.builtins=builtinsNs
 above:X.s₀.heap.objs.size<=X.env.locals
 inj:∀x y c,X.env.cells.lookup x=some c->X.env.cells.lookup y=some c->x=y
 has:∀x,(X.env.kindOf x=some .cell\/X.env.kindOf x=some .free)->∃c,X.env.cells.lookup x=some c
 cab:∀x c,X.fn x=true->X.env.cells.lookup x=some c->X.s₀.heap.objs.size<=c
 hd:X.calm=true->X.A.handled=none
 frames:X.A.frames=some X.stack
 stk:X.stack=X.outer\/(X.stack=X.env::X.outer/\X.env.frame=some X.env.locals)
 exf:∀b∈X.ex,b≠X.env.locals/\∀x c,X.env.cells.lookup x=some c->c≠b
 bs:∀b o,X.base.get? b=some o->X.s₀.heap.get? b=some o/\X.H₀ b=none
 bsz:X.base.objs.size<=X.s₀.heap.objs.size
 noex:∀b o,X.base.get? b=some o->b∉X.ex
 exfs:∀b∈X.ex,b∉X.fs
 funs:X.s₀.heap.FunFrames X.base X.outer
 frf:∀b∈X.fs,X.H₀ b=none
structure Inv(X:Cx)(pins:List (Addr×Obj))(σ:List (Option V))(H:Hp)(s:Shared):Prop where
 ok:X.Ok
 os:s.os=X.s₀.os
 bare:AllBare s.gens
 base:Un X.fs X.ex X.H₀ H X.s₀.heap s.heap
 loc:∃m,s.heap.Ns X.env.locals m/\∀(i:Nat)(x:Str)(v:V),X.N[i]? = some x->σ[i]? = some (some v)->Vis X.env.scope x->∃u,RelV v u/\Zka X.env s.heap m x u
 cell:∀x c,X.env.cells.lookup x=some c->∃v,s.heap.IsCell c v
 free:H X.env.locals=none
 freeC:∀x c,X.env.cells.lookup x=some c->H c=none
 pin:∀p∈X.pn++pins,s.heap.get? p.1=some p.2/\H p.1=none/\p.1≠X.env.locals/\p.1∉X.fs/\∀v,p.2.data ≠ .cell v
 hok:HOk X.prog X.w H s.heap
 len:σ.length=X.N.length
section
variable{X:Cx}{pins:List (Addr×Obj)}{σ:List (Option V)}{H H':Hp}{s:Shared}{h':Heap}
theorem Cx.Ok.nofr(ok:X.Ok){b:Addr}{o:Obj}(e:X.base.get? b=some o):b∉X.fs:=λhb=>by
 have:=(ok.funs.mem hb).1;rw [e]at this;cases this
theorem Inv.bs(I:Inv X pins σ H s):∀b o,X.base.get? b=some o->s.heap.get? b=some o/\H b=none:=λb o e=>
 ⟨I.base.keep b o (I.ok.bs b o e).1 (I.ok.bs b o e).2 (I.ok.nofr e) (I.ok.noex b o e),I.base.free b o (I.ok.bs b o e).1 (I.ok.bs b o e).2 (I.ok.noex b o e)⟩
theorem Inv.bk(I:Inv X pins σ H s):∀b o,X.base.get? b=some o->s.heap.get? b=some o:=λb o e=>(I.bs b o e).1
theorem Inv.mod(I:Inv X pins σ H s):Mod X.K X.mg X.base:=I.ok.mod
theorem Inv.kIn(I:Inv X pins σ H s):X.K.In s.heap:=I.ok.mod.kin.keeps I.bk
theorem Inv.nolimit(I:Inv X pins σ H s):s.heap.NoLimit:=I.ok.mod.nolimit.keeps I.bk
theorem Inv.fr(I:Inv X pins σ H s):∃m,Fr X.base X.env.locals s.heap m:=
 let⟨m,hn,_⟩:=I.loc
 ⟨m,hn,I.bk,Nat.le_trans I.ok.bsz I.ok.above⟩
theorem Inv.lt(I:Inv X pins σ H s):X.env.locals<s.heap.objs.size:=let⟨_,hn,_⟩:=I.loc;hn.lt
theorem Inv.sz(I:Inv X pins σ H s):X.s₀.heap.objs.size<=s.heap.objs.size:=Nat.le_trans I.ok.above (Nat.le_of_lt I.lt)
theorem Inv.nofs(I:Inv X pins σ H s){a:Addr}(h:s.heap.objs.size<=a):a∉X.fs:=λhb=>by
 obtain⟨_,o,ho,_⟩:=I.ok.funs.mem hb;exact absurd (Nat.lt_of_lt_of_le (Heap.lt_size ho) (Nat.le_trans I.sz h)) (Nat.lt_irrefl _)
theorem Inv.cne(I:Inv X pins σ H s):∀x c,X.env.cells.lookup x=some c->c≠X.env.locals:=λx c e z=>by
 obtain⟨v,o,ho,hd⟩:=I.cell x c e;obtain⟨m,⟨o',es,ep,ho',hd',_⟩,_⟩:=I.loc;rw [z,ho']at ho;cases ho;rw [hd']at hd;cases hd
theorem Inv.funs(I:Inv X pins σ H s):s.heap.FunFrames X.base X.outer:=by
 have all:∀(l:List Env),(∀b∈frs l,b∈X.fs)->X.s₀.heap.FunFrames X.base l->s.heap.FunFrames X.base l:=by
  intro l
  induction l with
  |nil=>intro _ _;trivial
  |cons env r ih=>
   intro hs hl;obtain⟨hk,⟨L,o,hf,hn,ho,hd⟩,hr⟩:=hl;have hL:L∈X.fs:=hs L (by unfold frs;rw [List.filterMap_cons,hf];exact List.mem_cons_self);obtain⟨sl,e⟩:=I.base.slot L o ho (I.ok.frf L hL) hL λz=>I.ok.exfs L z hL
   exact⟨hk,⟨L,_,hf,hn,e,hd⟩,ih (λb hb=>hs b (by unfold frs;rw [List.filterMap_cons,hf];exact List.mem_cons_of_mem _ hb)) hr⟩
 exact all X.outer (λ_ hb=>hb) I.ok.funs
theorem Inv.stack(I:Inv X pins σ H s):s.heap.FunFrames X.base X.stack:=by
 rcases I.ok.stk with e|⟨e,hf⟩
 · rw [e];exact I.funs
 · rw [e]
   obtain⟨m,hn,_⟩:=I.loc;refine .cons (by rw [I.ok.kind];decide) hf hn ?_ I.funs;exact Heap.get?_none_of_le (Nat.le_trans I.ok.bsz I.ok.above)
theorem Inv.stkSub(I:Inv X pins σ H s):∀b∈frs X.stack,b∈X.env.locals::X.fs:=λb hb=>by
 rcases I.ok.stk with e|⟨e,hf⟩
 · rw [e]at hb;exact List.mem_cons_of_mem _ hb
 · rw [e]at hb
   unfold frs at hb;rw [List.filterMap_cons,hf]at hb;exact hb
theorem Inv.stkFree(I:Inv X pins σ H s):∀b∈frs X.stack,H b=none:=λb hb=>by
 rcases List.mem_cons.mp (I.stkSub b hb)with e|hb
 · rw [e];exact I.free
 · obtain⟨_,o,ho,_⟩:=I.ok.funs.mem hb
   exact I.base.free b o ho (I.ok.frf b hb) λz=>I.ok.exfs b z hb
theorem Inv.step {g':Array GenState} {t':Nat} {d':Drawn} {ch:List Addr} (I:Inv X pins σ H s)
 (hch:∀b∈ch,(b∈X.ex\/X.s₀.heap.objs.size<=b)/\b≠X.env.locals/\(∀x c,X.env.cells.lookup x=some c->c≠b)/\∀p∈X.pn++pins,p.1≠b)
 (keep:∀b o,b≠X.env.locals->b∉X.fs->b∉ch->s.heap.get? b=some o->H b=none->h'.get? b=some o)
 (slot:∀b o,b≠X.env.locals->b∈X.fs->b∉ch->s.heap.get? b=some o->H b=none->∃sl,h'.get? b=some { o with slots:=sl }) (free:∀b o,b∉ch->s.heap.get? b=some o->H b=none->H' b=none)
 (there:∀b o,b∉ch->s.heap.get? b=some o->∃o',h'.get? b=some o')
 (tups:∀b xs,H b=some (.tup xs)->H' b=some (.tup xs)) (frzs:∀b o u,H b=some (.frz o u)->H' b=some (.frz o u)) (tbls:∀b ps,H b=some (.tbl ps)->∃more,H' b=some (.tbl (ps++more)))
 (ns:∀m,s.heap.Ns X.env.locals m->h'.Ns X.env.locals m) (hok:HOk X.prog X.w H' h') (hg:AllBare g') :
 Inv X pins σ H' { s with heap:=h',gens:=g',drawn:=d',toks:=t' }:=by
 have neL:∀b o,X.s₀.heap.get? b=some o->b≠X.env.locals:=λb o e=>Nat.ne_of_lt (Nat.lt_of_lt_of_le (Heap.lt_size e) I.ok.above)
 have neC:∀b o,X.s₀.heap.get? b=some o->b∉X.ex->b∉ch:=λb o e hx hb=>by
  rcases(hch b hb).1 with z|z
  · exact hx z
  · exact absurd (Nat.lt_of_lt_of_le (Heap.lt_size e) z) (Nat.lt_irrefl _)
 have cellK:∀x c,X.env.cells.lookup x=some c->∀v,s.heap.IsCell c v->h'.IsCell c v:=λx c e v ⟨o,ho,hd⟩=>by
  have nch:c∉ch:=λz=>(hch c z).2.2.1 x c e rfl
  by_cases hc:c∈X.fs
  · obtain⟨sl,q⟩:=slot c o (I.cne x c e) hc nch ho (I.freeC x c e)
    exact⟨_,q,hd⟩
  · exact⟨o,keep c o (I.cne x c e) hc nch ho (I.freeC x c e),hd⟩
 refine⟨I.ok,I.os,hg,⟨λb o e n hb hx => ?_,λb o e n hb hx => ?_,λb o e n hx => ?_,λb o e hx => ?_,λb xs e=>tups b xs (I.base.tups b xs e),λb o xs e=>frzs b o xs (I.base.frzs b o xs e),λb ps e => ?_⟩,?_,λx c e => ?_,?_,λx c e => ?_,λp hp => ?_,hok,I.len⟩
 · exact keep b o (neL b o e) hb (neC b o e hx) (I.base.keep b o e n hb hx) (I.base.free b o e n hx)
 · obtain⟨sl,e1⟩:=I.base.slot b o e n hb hx
   obtain⟨sl',e2⟩:=slot b _ (neL b o e) hb (neC b o e hx) e1 (I.base.free b o e n hx);exact⟨sl',e2⟩
 · obtain⟨o',e1⟩:=I.base.there b o e hx
   exact free b o' (neC b o e hx) e1 (I.base.free b o e n hx)
 · obtain⟨o',e1⟩:=I.base.there b o e hx
   exact there b o' (neC b o e hx) e1
 · obtain⟨m1,e1⟩:=I.base.tbls b ps e
   obtain⟨m2,e2⟩:=tbls b _ e1;exact⟨m1++m2,by rw [e2,Array.append_assoc]⟩
 · obtain⟨m,hn,hl⟩:=I.loc
   refine⟨m,ns m hn,λi x v e1 e2 e3 => ?_⟩;obtain⟨u,r,l⟩:=hl i x v e1 e2 e3;refine⟨u,r,?_⟩;rcases l with l|⟨k,c,e,z⟩
   · exact .inl l
   · exact .inr ⟨k,c,e,cellK x c e _ z⟩
 · obtain⟨v,z⟩:=I.cell x c e
   exact⟨v,cellK x c e v z⟩
 · obtain⟨m,⟨o,_,_,ho,_⟩,_⟩:=I.loc
   exact free _ o (λz=>(hch _ z).2.1 rfl) ho I.free
 · obtain⟨v,o,ho,hd⟩:=I.cell x c e
   exact free c o (λz=>(hch c z).2.2.1 x c e rfl) ho (I.freeC x c e)
 · obtain⟨e,n,ne,nf,d⟩:=I.pin p hp
   have nch:p.1∉ch:=λz=>(hch p.1 z).2.2.2 p hp rfl
   exact⟨keep p.1 p.2 ne nf nch e n,free p.1 p.2 nch e n,ne,nf,d⟩
theorem Inv.un{t':Nat}(I:Inv X pins σ H s)(u:Un X.fs [] H H' s.heap h')(hok:HOk X.prog X.w H' h'):Inv X pins σ H' { s with heap:=h',toks:=t' }:=by
 obtain⟨m,⟨o,es,ep,ho,r⟩,_⟩:=id I.loc;obtain⟨sl,hL⟩:=u.any ho I.free (by simp)
 exact I.step (g':=s.gens) (d':=s.drawn) (ch:=[]) (λ_ z=>nomatch z) (λb o _ hb _ e n=>u.keep b o e n hb (by simp)) (λb o _ hb _ e n=>u.slot b o e n hb (by simp)) (λb o _ e n=>u.free b o e n (by simp)) (λb o _ e=>u.there b o e (by simp)) u.tups u.frzs u.tbls (λm' hm=>by
  obtain⟨o',es',ep',ho',r'⟩:=hm;rw [ho]at ho';cases ho';exact⟨_,es',ep',hL,r'⟩) hok I.bare
theorem Inv.call {g':Array GenState} {t':Nat} {d':Drawn} {ch:List Addr} (I:Inv X pins σ H s) (u:Un (frs X.stack) ch H H' s.heap h') (hok:HOk X.prog X.w H' h') (hg:AllBare g')
 (hch:∀b∈ch,(b∈X.ex\/X.s₀.heap.objs.size<=b)/\b≠X.env.locals/\(∀x c,X.env.cells.lookup x=some c->c≠b)/\∀p∈X.pn++pins,p.1≠b) :
 Inv X pins σ H' { s with heap:=h',gens:=g',drawn:=d',toks:=t' }:=by
 obtain⟨m,⟨o,es,ep,ho,r⟩,_⟩:=id I.loc;obtain⟨sl,hL⟩:=u.any ho I.free λz=>(hch _ z).2.1 rfl
 exact I.step (ch:=ch) hch (λb o hL hb hc e n=>u.keep b o e n (λz=>(List.mem_cons.mp (I.stkSub b z)).elim hL hb) hc) (λb o _ _ hc e n=>u.any e n hc) (λb o hc e n=>u.free b o e n hc) (λb o hc e=>u.there b o e hc) u.tups u.frzs u.tbls (λm' hm=>by
  obtain⟨o',es',ep',ho',r'⟩:=hm;rw [ho]at ho';cases ho';exact⟨_,es',ep',hL,r'⟩) hok hg
theorem Inv.turned {t':Nat} {it:Addr} (I:Inv X pins σ H s) (k:∀b o,b≠it->s.heap.get? b=some o->h'.get? b=some o) (hn:H it=none) (hL:it≠X.env.locals)
 (h1:it∈X.ex\/X.s₀.heap.objs.size<=it) (h2:∀x c,X.env.cells.lookup x=some c->c≠it) (h3:∀p∈X.pn++pins,p.1≠it):Inv X pins σ H { s with heap:=h',toks:=t' }:=by
 have nit:∀b u,H b=some u->b≠it:=λb u e z=>by rw [z,hn]at e;cases e
 refine I.step (g':=s.gens) (d':=s.drawn) (ch:=[it]) (λb hb => ?_) (λb o _ _ hc e _=>k b o (λz=>hc (by simp [z])) e) (λb o _ _ hc e _=>⟨o.slots,k b o (λz=>hc (by simp [z])) e⟩) (λ_ _ _ _ n=>n)
  (λb o hc e=>⟨o,k b o (λz=>hc (by simp [z])) e⟩) (λ_ _ e=>e) (λ_ _ _ e=>e) (λb ps e=>⟨#[],by rw [e];simp⟩) (λm hm => ?_) (λb u e => ?_) I.bare
 · have e:b=it:=by simpa using hb
   subst e;exact⟨h1,hL,h2,h3⟩
 · obtain⟨o,es,ep,ho,r⟩:=hm
   exact⟨o,es,ep,k _ o (Ne.symm hL) ho,r⟩
 · refine(I.hok b u e).stay (λc v hc q=>k c v ?_ q) (λ_ q=>q) λ_ _ q=>q
   rcases hc with z|z
   · rw [z];exact nit b u e
   · exact nit c _ z
theorem Inv.tok(I:Inv X pins σ H s)(t:Nat):Inv X pins σ H { s with toks:=t }:=I.un (h':=s.heap) (t':=t) Un.refl I.hok
theorem Inv.kept{t':Nat}(I:Inv X pins σ H s)(k:∀b u,s.heap.get? b=some u->h'.get? b=some u):Inv X pins σ H { s with heap:=h',toks:=t' }:=I.un (Un.kept k) (I.hok.kept k)
theorem Inv.laid{a:Addr}{o:HO}{t':Nat}(I:Inv X pins σ H s)(k:∀b u,s.heap.get? b=some u->h'.get? b=some u)(hp:s.heap.objs.size<=a)(new:ObjOk X.prog X.w (upd H a o) h' a o) :
 Inv X pins σ (upd H a o) { s with heap:=h',toks:=t' }:=I.un (Un.laid k hp (I.hok.fresh hp)) (I.hok.laid k hp new)
theorem Inv.write {x e:Addr} {o:HO} {t':Nat} (I:Inv X pins σ H s) (mu:Mut (H x)) (he:e=x\/H e=some (.own x)) (k:∀b u,b≠e->s.heap.get? b=some u->h'.get? b=some u) (heo:∃u,h'.get? e=some u)
 (new:ObjOk X.prog X.w (upd H x o) h' x o):Inv X pins σ (upd H x o) { s with heap:=h',toks:=t' }:=I.un (Un.write mu he k heo) (I.hok.write mu he k heo new)
theorem Inv.pins_of{pins':List (Addr×Obj)}(I:Inv X pins σ H s)(h:∀p∈pins',s.heap.get? p.1=some p.2/\H p.1=none/\p.1≠X.env.locals/\p.1∉X.fs/\∀v,p.2.data ≠ .cell v):Inv X pins' σ H s:=
 ⟨I.ok,I.os,I.bare,I.base,I.loc,I.cell,I.free,I.freeC,λp hp=>(List.mem_append.mp hp).elim (λz=>I.pin p (List.mem_append_left _ z)) (h p),I.hok,I.len⟩
theorem ZbA{N:List Str}(hN:N.Nodup){i j:Nat}{x:Str}(a:N[i]? = some x)(b:N[j]? = some x):i=j:=by
 obtain⟨h1,e1⟩:=List.getElem?_eq_some_iff.mp a;obtain⟨h2,e2⟩:=List.getElem?_eq_some_iff.mp b;exact(List.getElem_inj hN).mp (e1.trans e2.symm)
theorem ZaN {M:Model} {A:Around} {E:Value->Shared->Prop} {i:Nat} {x:Str} {v:V} {u:Value} {Q:Unit->Shared->Prop} (I:Inv X pins σ H s) (hN:X.N.Nodup) (hi:X.N[i]? = some x) (hx:Loc X.env.scope x) (r:RelV v u)
 (h:∀s',Inv X pins (σ.set i (some v)) H s'->(∃a,Heap.SameBut a s.heap s'.heap/\(a=X.env.locals\/X.env.cells.lookup x=some a))->Q () s') (hf:X.fn x=true\/X.env.scope.names.lookup x=some .local:=by first|exact .inl rfl|exact .inr rfl|assumption):wpAny M A (storeName X.env x u) Q E s:=by
 obtain⟨m,hn,hl⟩:=id I.loc;have hcls:(X.env.scope.kind == .class||(X.env.scope.kind == .module&&X.env.locals != X.env.globals))=false:=by rw [I.ok.kind];rfl
 have hiσ:i<σ.length:=by rw [I.len];exact(List.getElem?_eq_some_iff.mp hi).1
 have cne:=I.cne
 have tracked:∀{a:Addr}{h':Heap},(∃o,s.heap.get? a=some o/\H a=none)->Heap.SameBut a s.heap h'->HOk X.prog X.w H h':=λ{a h'} ha hs b ob e=>by
  obtain⟨_,_,hfree⟩:=ha;refine(I.hok b ob e).stay (λc w' hc q=>(hs.2 c ?_).trans q) (λ_ q=>q) λ_ _ q=>q
  rintro rfl
  rcases hc with rfl|hc
  · rw [hfree]at e;cases e
  · rw [hfree]at hc;cases hc
 rcases hx with hk|hk
 · refine wpAny_storeName_local hk hn (λh' hn' hs => ?_) hcls
   obtain⟨oL,_,_,hoL,_⟩:=id hn;refine h _ ⟨I.ok,I.os,I.bare,⟨λb o e n hb hx => ?_,λb o e n hb hx => ?_,I.base.free,λb o e hx => ?_,I.base.tups,I.base.frzs,I.base.tbls⟩,⟨_,hn',λj y v' e1 e2 e3 => ?_⟩,λy c e => ?_,I.free,I.freeC,λp hp => ?_,tracked ⟨oL,hoL,I.free⟩ hs,by simpa using I.len⟩ ⟨_,hs,.inl rfl⟩
   · exact(hs.2 b (Nat.ne_of_lt (Nat.lt_of_lt_of_le (Heap.lt_size e) I.ok.above))).trans (I.base.keep b o e n hb hx)
   · obtain⟨sl,e1⟩:=I.base.slot b o e n hb hx
     exact⟨sl,(hs.2 b (Nat.ne_of_lt (Nat.lt_of_lt_of_le (Heap.lt_size e) I.ok.above))).trans e1⟩
   · obtain⟨o',e1⟩:=I.base.there b o e hx
     exact⟨o',(hs.2 b (Nat.ne_of_lt (Nat.lt_of_lt_of_le (Heap.lt_size e) I.ok.above))).trans e1⟩
   · by_cases hj:j=i
     · subst hj
       rw [hi]at e1;cases e1;rw [List.getElem?_set_self hiσ]at e2;cases e2;exact⟨u,r,.inl ⟨hk,by simp⟩⟩
     · rw [List.getElem?_set_ne (Ne.symm hj)]at e2
       obtain⟨u',r',q⟩:=hl j y v' e1 e2 e3;refine⟨u',r',?_⟩;rcases q with⟨k,e⟩|⟨k,c,e,z⟩
       · refine .inl ⟨k,?_⟩
         have:y≠x:=λe=>hj (ZbA hN e1 (e▸hi))
         simp [this,e]
       · exact .inr ⟨k,c,e,z.sameBut hs (cne y c e)⟩
   · obtain⟨w',z⟩:=I.cell y c e
     exact⟨w',z.sameBut hs (cne y c e)⟩
   · obtain⟨e,n,ne,nf,d⟩:=I.pin p hp
     exact⟨(hs.2 p.1 ne).trans e,n,ne,nf,d⟩
 · have hfn : X.fn x = true := by
    rcases hf with z|z
    · exact z
    · rw [z]at hk;cases hk
   obtain⟨c,hc⟩:=I.ok.has x (.inl hk);obtain⟨w',z⟩:=I.cell x c hc;refine wpAny_storeName_cell I.ok.kind hk hc z (λh' hc' hs => ?_);obtain⟨oc,hoc,hocd⟩:=id z;refine h { s with heap:=h' } ⟨I.ok,I.os,I.bare,⟨λb o e n hb hx => ?_,λb o e n hb hx => ?_,I.base.free,λb o e hx => ?_,I.base.tups,I.base.frzs,I.base.tbls⟩,⟨m,hn.sameBut hs (Ne.symm (cne x c hc)),λj y v' e1 e2 e3 => ?_⟩,λy c' e => ?_,I.free,I.freeC,λp hp => ?_,tracked ⟨oc,hoc,I.freeC x c hc⟩ hs,by simpa using I.len⟩ ⟨c,hs,.inr hc⟩
   · exact(hs.2 b (Nat.ne_of_lt (Nat.lt_of_lt_of_le (Heap.lt_size e) (I.ok.cab x c hfn hc)))).trans (I.base.keep b o e n hb hx)
   · obtain⟨sl,e1⟩:=I.base.slot b o e n hb hx
     exact⟨sl,(hs.2 b (Nat.ne_of_lt (Nat.lt_of_lt_of_le (Heap.lt_size e) (I.ok.cab x c hfn hc)))).trans e1⟩
   · obtain⟨o',e1⟩:=I.base.there b o e hx
     exact⟨o',(hs.2 b (Nat.ne_of_lt (Nat.lt_of_lt_of_le (Heap.lt_size e) (I.ok.cab x c hfn hc)))).trans e1⟩
   · by_cases hj:j=i
     · subst hj
       rw [hi]at e1;cases e1;rw [List.getElem?_set_self hiσ]at e2;cases e2;exact⟨u,r,.inr ⟨.inl hk,c,hc,hc'⟩⟩
     · rw [List.getElem?_set_ne (Ne.symm hj)]at e2
       obtain⟨u',r',q⟩:=hl j y v' e1 e2 e3;refine⟨u',r',?_⟩;rcases q with q|⟨k,c',e,z'⟩
       · exact .inl q
       · refine .inr ⟨k,c',e,z'.sameBut hs ?_⟩
         rintro rfl
         exact hj (ZbA hN e1 (I.ok.inj _ _ _ e hc▸hi))
   · by_cases hcc:c'=c
     · subst hcc;exact⟨_,hc'⟩
     · obtain⟨w2,z2⟩:=I.cell y c' e
       exact⟨w2,z2.sameBut hs hcc⟩
   · obtain⟨e,n,ne,nf,d⟩:=I.pin p hp
     refine⟨(hs.2 p.1 ?_).trans e,n,ne,nf,d⟩;intro q;rw [q,hoc]at e;have q':oc=p.2:=Option.some.inj e;exact d w' (by rw [<-q'];exact hocd)
theorem ZbB {M:Model} {A:Around} {E:Value->Shared->Prop} {i:Nat} {x:Str} {v:V} {u:Value} {Q:Unit->Shared->Prop} (I:Inv X pins σ H s) (hN:X.N.Nodup) (hi:X.N[i]? = some x) (hx:Loc X.env.scope x) (r:RelV v u)
 (h:∀s',Inv X pins (σ.set i (some v)) H s'->Q () s') (hf:X.fn x=true\/X.env.scope.names.lookup x=some .local:=by first|exact .inl rfl|exact .inr rfl|assumption):wpAny M A (storeName X.env x u) Q E s:=
 ZaN I hN hi hx r (λs' I' _=>h s' I') hf
theorem Inv.call' {s':Shared} {ch:List Addr} (I:Inv X pins σ H s) (ho:s'.os=s.os) (u:Un (frs X.stack) ch H H' s.heap s'.heap) (hok:HOk X.prog X.w H' s'.heap) (hg:AllBare s'.gens)
 (hch:∀b∈ch,(b∈X.ex\/X.s₀.heap.objs.size<=b)/\b≠X.env.locals/\(∀x c,X.env.cells.lookup x=some c->c≠b)/\∀p∈X.pn++pins,p.1≠b):Inv X pins σ H' s':=by
 obtain⟨h',g',d',t',o'⟩:=s';have e:o'=s.os:=ho;subst e;exact I.call (g':=g') (t':=t') (d':=d') u hok hg hch
end
abbrev XK:=Value->Option Addr->Hp->Prop
abbrev St:=List (Option V)
abbrev VK:=V->Hp->Prop
abbrev TE:=St->Hp->VK->Prop
abbrev TT:=St->Hp->(Bool->Hp->Prop)->Prop
abbrev TA:=St->Hp->(List V->Hp->Prop)->Prop
structure Ends where
 nx:St->Hp->Prop
 rt:VK
 bk:St->Hp->Prop:=λ_ _=>False
 ct:St->Hp->Prop:=λ_ _=>False
abbrev TS:=Ends->St->Hp->Prop
def EP(X:Cx)(pins:List (Addr×Obj))(σ:St)(Q:VK)(u:Value)(s':Shared):Prop:=∃v H',Inv X pins σ H' s'/\RelV v u/\Q v H'
def TP(X:Cx)(pins:List (Addr×Obj))(σ:St)(Q:Bool->Hp->Prop)(b:Bool)(s':Shared):Prop:=∃H',Inv X pins σ H' s'/\Q b H'
def AP(X:Cx)(pins:List (Addr×Obj))(σ:St)(Q:List V->Hp->Prop)(us:List Value)(s':Shared):Prop:=∃vs H',Inv X pins σ H' s'/\Vals vs us/\Q vs H'
def SP(X:Cx)(pins:List (Addr×Obj))(D:Ends)(f:Flow)(s':Shared):Prop:=
 match f with
 | .next=>∃σ' H',Inv X pins σ' H' s'/\D.nx σ' H'
 | .brk=>∃σ' H',Inv X pins σ' H' s'/\D.bk σ' H'
 | .cont=>∃σ' H',Inv X pins σ' H' s'/\D.ct σ' H'
 | .ret u=>∃v σ' H',Inv X pins σ' H' s'/\RelV v u/\D.rt v H'
def PE(X:Cx)(e:Expr)(t:TE):Prop:=
 ∀(pins:List (Addr×Obj))(s:Shared)(σ:St)(H:Hp)(Q:VK),Inv X pins σ H s->t σ H Q->wpAny (model X.prog X.w) X.A (eval e X.env) (EP X pins σ Q) X.xe s
def PT(X:Cx)(e:Expr)(t:TT):Prop:=
 ∀(pins:List (Addr×Obj))(s:Shared)(σ:St)(H:Hp)(Q:Bool->Hp->Prop),Inv X pins σ H s->t σ H Q->wpAny (model X.prog X.w) X.A (isTrue e X.env (eval e X.env)) (TP X pins σ Q) X.xe s
def PW(X:Cx)(e:Expr)(t:TT):Prop:=
 ∀(whole:Sem Value)(pins:List (Addr×Obj))(s:Shared)(σ:St)(H:Hp)(Q:Bool->Hp->Prop),Inv X pins σ H s->t σ H Q->wpAny (model X.prog X.w) X.A (isTrue e X.env whole) (TP X pins σ Q) X.xe s
theorem PW.pt{X:Cx}{e:Expr}{t:TT}(h:PW X e t):PT X e t:=h _
def PA(X:Cx)(es:List Expr)(t:TA):Prop:=
 ∀(pos:Pos)(pins:List (Addr×Obj))(s:Shared)(σ:St)(H:Hp)(Q:List V->Hp->Prop),Inv X pins σ H s->t σ H Q->wpAny (model X.prog X.w) X.A (spliced (backTo pos (starEach es X.env))) (AP X pins σ Q) X.xe s
def PS(X:Cx)(st:Stmt)(t:TS):Prop:=
 ∀(pins:List (Addr×Obj))(s:Shared)(σ:St)(H:Hp)(D:Ends),Inv X pins σ H s->t D σ H->wpAny (model X.prog X.w) X.A (exec st X.env) (SP X pins D) X.xe s
def PSs(X:Cx)(st:List Stmt)(t:TS):Prop:=
 ∀(pins:List (Addr×Obj))(s:Shared)(σ:St)(H:Hp)(D:Ends),Inv X pins σ H s->t D σ H->wpAny (model X.prog X.w) X.A (execs st X.env) (SP X pins D) X.xe s
theorem thn{α:Type}{t:Sem α}{Q Q':α->Shared->Prop}{M:Model}{A:Around}{E:Value->Shared->Prop}{s:Shared}(h:wpAny M A t Q E s)(hQ:∀a s,Q a s->Q' a s):wpAny M A t Q' E s:=wpAny_mono h hQ λ_ _ x=>x
end L2
namespace L2
open PySem PySem.Spec PyProof.Rows
section
variable{X:Cx}
def Xr(i:Nat):TE:=λσ H Q=>∃v,σ[i]? = some (some v)/\Q v H
def tC(v:V):TE:=λ_ H Q=>Q v H
theorem ZhS {i:Nat} {x:Str} {pos:Pos} (hN:X.N[i]? = some x) (hv:Vis X.env.scope x) (hd:(x == ("__debug__" : Str))=false:=by decide) (hcd:(x == ("__classdict__" : Str))=false:=by decide):PE X (.Name x pos) (Xr i):=by
 intro pins s σ H Q I h;obtain⟨v,e,h⟩:=h;obtain⟨m,hn,hl⟩:=I.loc;obtain⟨u,r,l⟩:=hl i x v hN e hv;have fin:EP X pins σ Q u s:=⟨v,H,I,r,h⟩
 rcases l with⟨hk,hm⟩|⟨hk,c,hc,hcell⟩
 · exact wpAny_Name (wpAny_loadName_local I.ok.kind hk hn hm fin) hd
 · rcases hk with hk|hk
   · exact wpAny_Name (wpAny_loadName_cell I.ok.kind hk hc hcell fin) hd
   · exact wpAny_Name (wpAny_loadName_free I.ok.kind hk hc hcell fin hcd) hd
theorem Zn{i j pos}:PE X (.Constant (.int i) j pos) (tC (.int i)):=λ_ _ _ H _ I h=>wpAny_Constant_int ⟨.int i,H,I.tok _,⟨_,rfl⟩,h⟩
theorem VM{b j pos}:PE X (.Constant (.bool b) j pos) (tC (.bl b)):=λ_ _ _ H _ I h=>Constant_bool ⟨.bl b,H,I,rfl,h⟩
theorem Jz{j pos}:PE X (.Constant .none j pos) (tC .non):=λ_ _ _ H _ I h=>Constant_none ⟨.non,H,I,rfl,h⟩
theorem ZhT{x j pos}:PE X (.Constant (.str x) j pos) (tC (.str x)):=λ_ _ _ H _ I h=>Calls.Constant_str ⟨.str x,H,I.tok _,⟨_,rfl⟩,h⟩
def Gl(X:Cx)(x:Str):Prop:=X.env.kindOf x=some .globalImplicit
theorem ZcM {E:Value->Shared->Prop} {pins:List (Addr×Obj)} {s:Shared} {σ:St} {H:Hp} {x:Str} {u:Value} {pos:Pos} {Q:Value->Shared->Prop} (I:Inv X pins σ H s) (hg:Gl X x) (hm:X.mg x=some u) (h:Q u s)
 (hd:(x == ("__debug__" : Str))=false:=by decide):wpAny (model X.prog X.w) X.A (eval (.Name x pos) X.env) Q E s:=
 Calls.Name_function_global I.ok.kind hg (Calls.loadGlobal_global (by rw [I.ok.glob];exact I.mod.glob.keeps I.bk) hm h) hd
theorem Vf {E:Value->Shared->Prop} {pins:List (Addr×Obj)} {s:Shared} {σ:St} {H:Hp} {x:Str} {u:Value} {pos:Pos} {Q:Value->Shared->Prop} (I:Inv X pins σ H s) (hg:Gl X x) (hm:X.mg x=none) (hv:bootBuiltins x=some u) (h:Q u s)
 (hn:x ≠ "__name__" := by decide) (hd:(x == ("__debug__" : Str))=false:=by decide):wpAny (model X.prog X.w) X.A (eval (.Name x pos) X.env) Q E s:=by
 obtain⟨mb,h1,h2⟩:=I.mod.blt;exact Calls.Name_function_global I.ok.kind hg (Calls.loadGlobal_builtin (by rw [I.ok.glob];exact I.mod.glob.keeps I.bk) hm (by rw [I.ok.blt];exact h1.keeps I.bk) ((h2 x hn).trans hv) h) hd
theorem JA {x:Str} {v:V} {u:Value} {pos:Pos} (hg:Gl X x) (hm:X.mg x=none) (hv:bootBuiltins x=some u) (r:RelV v u) (hn:x ≠ "__name__" := by decide) (hd:(x == ("__debug__" : Str))=false:=by decide):PE X (.Name x pos) (tC v):=
 λ_ _ _ H _ I h=>Vf I hg hm hv ⟨v,H,I,r,h⟩ hn hd
variable{a b:Expr}{ta tb:TE}{pos:Pos}
def PC(X:Cx)(op:CmpOp)(a b:Expr)(t:TE):Prop:=
 ∀(pins:List (Addr×Obj))(s:Shared)(σ:St)(H:Hp)(Q:VK),Inv X pins σ H s->t σ H Q ->
  wpAny (model X.prog X.w) X.A (eval a X.env) (λv s₁=>wpAny (model X.prog X.w) X.A (eval b X.env) (λu s₂=>wpAny (model X.prog X.w) X.A (compareOp op v u) (EP X pins σ Q) X.xe s₂) X.xe s₁) X.xe s
theorem Zei(b:Expr){op:CmpOp}(h:op ≠ .In)(h2:op ≠ .NotIn):behindInMarks op b=false:=by
 have e1:(op == CmpOp.In)=false:=by cases op<;>first|rfl|exact absurd rfl h
 have e2:(op == CmpOp.NotIn)=false:=by cases op<;>first|rfl|exact absurd rfl h2
 cases b<;>simp [behindInMarks,e1,e2]
def Zkb(ta:TE):TE:=λσ H Q=>ta σ H λx H1=>Q (.bl (decide (x = .non))) H1
def Zg7(ta:TE):TE:=λσ H Q=>ta σ H λx H1=>Q (.bl (!decide (x = .non))) H1
theorem RelV.none_iff{x:V}{v:Value}(r:RelV x v):(v == Value.none)=decide (x = .non):=by
 cases x with
 |non=>cases r;rfl
 |bl _=>cases r;rfl
 |int _=>obtain⟨t,rfl⟩:=r;rfl
 |str _=>obtain⟨t,rfl⟩:=r;rfl
 |byt _=>obtain⟨t,rfl⟩:=r;rfl
 |flt _=>obtain⟨t,rfl⟩:=r;rfl
 |ref _=>cases r;rfl
 |ty _=>cases r;rfl
theorem ZhU{j pos'}(ha:PE X a ta):PC X .Is a (.Constant .none j pos') (Zkb ta):=by
 intro pins s σ H Q I h;refine thn (ha pins s σ H _ I h) λv s1 ⟨x,H1,I1,r1,q1⟩ => ?_
 exact Constant_none (is_none_gen ⟨.bl _,H1,I1,by rw [r1.none_iff];rfl,q1⟩)
theorem ZcN{j pos'}(ha:PE X a ta):PC X .IsNot a (.Constant .none j pos') (Zg7 ta):=by
 intro pins s σ H Q I h;refine thn (ha pins s σ H _ I h) λv s1 ⟨x,H1,I1,r1,q1⟩ => ?_
 exact Constant_none (isnot_none_gen ⟨.bl _,H1,I1,by rw [r1.none_iff];rfl,q1⟩)
def tB(t:TE):TT:=λσ H Q=>t σ H λx H1=>∃c,x = .bl c/\Q c H1
theorem QH{op:CmpOp}{t:TE}(h:PC X op a b t)(h1:behindInMarks op b=false:=by first|exact Zei _ (by decide) (by decide)|rfl):PT X (.Compare a [op] [b] pos) (tB t):=by
 intro pins s σ H Q I hw;refine wpAny_isTrue_Compare1 (thn (h pins s σ H _ I hw) λv s1 h1=>thn h1 λu s2 h2=>thn h2 λc s3 ⟨x,H1,I1,r1,q1⟩ => ?_) h1;obtain⟨d,rfl,q⟩:=q1;cases r1;exact wpAny_truthy_bool ⟨H1,I1,q⟩
theorem V3{e:Expr}{t:TE}(h:PE X e t)(he:∀whole,isTrue e X.env whole=(do let v <-whole;standAt e.pos;holding [v] (truthy v)):=by intro _;rfl):PT X e (tB t):=by
 intro pins s σ H Q I hw;refine isTrue_plain (thn (h pins s σ H _ I hw) λv s1 ⟨x,H1,I1,r1,q1⟩ => ?_) (he _);obtain⟨d,rfl,q⟩:=q1;cases r1;exact wpAny_truthy_bool ⟨H1,I1,q⟩
variable{tA tB':TT}{rest:List Expr}
def Zkc(t u:TT):TT:=λσ H Q=>t σ H λc H1=>if c=true then u σ H1 Q else Q false H1
def tOr(t u:TT):TT:=λσ H Q=>t σ H λc H1=>if c=true then Q true H1 else u σ H1 Q
def Zkd(t:TT):TT:=λσ H Q=>t σ H λc H1=>Q (!c) H1
theorem ZcO(ha:PT X a tA):PW X (.BoolOp .And [a] pos) tA:=by
 intro wh pins s σ H Q I h;refine isTrue_and (thn (ha pins s σ H Q I h) λc s1 e => ?_);cases c with
 |true=>exact isTrue_and_nil e
 |false=>exact e
theorem QI(ha:PT X a tA):PW X (.BoolOp .Or [a] pos) tA:=by
 intro wh pins s σ H Q I h;refine isTrue_or (thn (ha pins s σ H Q I h) λc s1 e => ?_);cases c with
 |false=>exact isTrue_or_nil e
 |true=>exact e
theorem Zfd(ha:PT X a tA)(hb:PW X (.BoolOp .And (b::rest) pos) tB'):PW X (.BoolOp .And (a::b::rest) pos) (Zkc tA tB'):=by
 intro wh pins s σ H Q I h;refine isTrue_and (thn (ha pins s σ H _ I h) λc s1 ⟨H1,I1,q1⟩ => ?_);cases c with
 |true=>exact hb wh pins s1 σ H1 Q I1 q1
 |false=>exact⟨H1,I1,q1⟩
theorem UV(ha:PT X a tA)(hb:PW X (.BoolOp .Or (b::rest) pos) tB'):PW X (.BoolOp .Or (a::b::rest) pos) (tOr tA tB'):=by
 intro wh pins s σ H Q I h;refine isTrue_or (thn (ha pins s σ H _ I h) λc s1 ⟨H1,I1,q1⟩ => ?_);cases c with
 |true=>exact⟨H1,I1,q1⟩
 |false=>exact hb wh pins s1 σ H1 Q I1 q1
theorem Uv(ha:PT X a tA):PT X (.UnaryOp .Not a pos) (Zkd tA):=by
 intro pins s σ H Q I h;exact isTrue_not (ha pins s σ H (λc H1=>Q (!c) H1) I h)
end
end L2
namespace L2
open PySem PySem.Spec PyProof.Rows
def SqL(K:PySem.W.Frag)(H:Hp)(a:Addr)(xs:List V):Prop:=
 Rd H a (.lst xs) \/
  ∃(o:Obj) (its:Array Value) (n:Nat),K.lookup a=some o/\o.cls = .type "list" /\ o.dict=none/\o.data = .seq its n/\its.size<=sizeLine/\Vals xs its.toList
def SqT(K:PySem.W.Frag)(H:Hp)(a:Addr)(xs:List V):Prop:=
 Rd H a (.tup xs) \/
  ∃(o:Obj) (its:Array Value) (n:Nat),K.lookup a=some o/\o.cls = .type "tuple" /\ o.data = .seq its n/\its.size<=sizeLine/\Vals xs its.toList
def ZkK:Value->Option V
 | .none=>some .non
 | .bool b=>some (.bl b)
 | .int i _=>some (.int i)
 | .str x _=>some (.str x)
 | .bytes b _=>some (.byt b)
 | .float b _=>some (.flt b)
 | .ref a=>some (.ref a)
 | .type n=>some (.ty n)
 |_=>none
theorem RelV.abs{x:V}{u:Value}(r:RelV x u):ZkK u=some x:=by
 cases x with
 |non=>cases r;rfl
 |bl _=>cases r;rfl
 |int _=>obtain⟨t,rfl⟩:=r;rfl
 |str _=>obtain⟨t,rfl⟩:=r;rfl
 |byt _=>obtain⟨t,rfl⟩:=r;rfl
 |flt _=>obtain⟨t,rfl⟩:=r;rfl
 |ref _=>cases r;rfl
 |ty _=>cases r;rfl
theorem RelV.inj{x y:V}{u:Value}(r:RelV x u)(q:RelV y u):x=y:=Option.some.inj (r.abs.symm.trans q.abs)
theorem Vals.inj:∀{xs ys:List V}{us:List Value},Vals xs us->Vals ys us->xs=ys
 |_,_,_,.nil,.nil=>rfl
 |_,_,_,.cons r t,.cons r' t'=>by rw [r.inj r',Vals.inj t t']
section
variable{X:Cx}{pins:List (Addr×Obj)}{σ:St}{H:Hp}{s:Shared}{a:Addr}{xs ys:List V}
theorem SqL.of{K:PySem.W.Frag}(h:H a=some (.lst xs)):SqL K H a xs := .inl (.inl h)
theorem SqT.of{K:PySem.W.Frag}(h:H a=some (.tup xs)):SqT K H a xs := .inl (.inl h)
theorem Inv.list(I:Inv X pins σ H s)(h:SqL X.K H a xs):∃its:List Value,Vals xs its/\PlainL s.heap a its.toArray/\xs.length<=sizeLine:=by
 rcases h with h|⟨o,its,n,hk,hc,hd,hs,hz,r⟩
 · obtain⟨z,its,n,r,e⟩:=h.ok I.hok
   exact⟨its,r,⟨_,n,e,rfl,rfl,rfl⟩,z⟩
 · refine⟨its.toList,r,⟨o,n,I.kIn a o hk,hc,hd,by simpa using hs⟩,?_⟩
   have e:=r.length;simp only [Array.length_toList]at e;omega
theorem Inv.tuple(I:Inv X pins σ H s)(h:SqT X.K H a xs):∃its:List Value,Vals xs its/\IsTup s.heap a its.toArray/\xs.length<=sizeLine:=by
 rcases h with h|⟨o,its,n,hk,hc,hs,hz,r⟩
 · obtain⟨z,its,r,p⟩:=h.ok I.hok
   exact⟨its,r,p.tup,z⟩
 · refine⟨its.toList,r,⟨o,I.kIn a o hk,hc,n,by simpa using hs⟩,?_⟩
   have e:=r.length;simp only [Array.length_toList]at e;omega
theorem Inv.list_inj(I:Inv X pins σ H s)(h:SqL X.K H a xs)(h':SqL X.K H a ys):xs=ys:=by
 obtain⟨its,r,⟨o,n,e,_,_,d⟩,_⟩:=I.list h;obtain⟨its',r',⟨o',n',e',_,_,d'⟩,_⟩:=I.list h';rw [e]at e';cases e';rw [d]at d';injection d' with d1 _
 have:its=its':=by simpa using congrArg Array.toList d1
 subst this;exact r.inj r'
theorem Inv.tuple_inj(I:Inv X pins σ H s)(h:SqT X.K H a xs)(h':SqT X.K H a ys):xs=ys:=by
 obtain⟨its,r,⟨o,e,_,n,d⟩,_⟩:=I.tuple h;obtain⟨its',r',⟨o',e',_,n',d'⟩,_⟩:=I.tuple h';rw [e]at e';cases e';rw [d]at d';injection d' with d1 _
 have:its=its':=by simpa using congrArg Array.toList d1
 subst this;exact r.inj r'
end
abbrev Cx.wish(X:Cx)(E:Value->Shared->Prop):Cx:={ X with xe:=E }
abbrev Cx.nox(X:Cx):Cx:=X.wish λ_ _=>False
theorem Cx.Ok.wish{X:Cx}(ok:X.Ok)(E:Value->Shared->Prop):(X.wish E).Ok:=
 ⟨ok.mod,ok.kind,ok.glob,ok.blt,ok.above,ok.inj,ok.has,ok.cab,ok.hd,ok.frames,ok.stk,ok.exf,ok.bs,ok.bsz,ok.noex,ok.exfs,ok.funs,ok.frf⟩
theorem Cx.Ok.unwish{X:Cx}{E:Value->Shared->Prop}(ok:(X.wish E).Ok):X.Ok:=
 ⟨ok.mod,ok.kind,ok.glob,ok.blt,ok.above,ok.inj,ok.has,ok.cab,ok.hd,ok.frames,ok.stk,ok.exf,ok.bs,ok.bsz,ok.noex,ok.exfs,ok.funs,ok.frf⟩
section
variable{X:Cx}{pins:List (Addr×Obj)}{σ:St}{H:Hp}{s:Shared}{E:Value->Shared->Prop}
theorem Inv.wish(I:Inv X pins σ H s)(E:Value->Shared->Prop):Inv (X.wish E) pins σ H s:=⟨I.ok.wish E,I.os,I.bare,I.base,I.loc,I.cell,I.free,I.freeC,I.pin,I.hok,I.len⟩
theorem Inv.unwish(I:Inv (X.wish E) pins σ H s):Inv X pins σ H s:=⟨I.ok.unwish,I.os,I.bare,I.base,I.loc,I.cell,I.free,I.freeC,I.pin,I.hok,I.len⟩
theorem SP.unwish{D:Ends}{f:Flow}{s':Shared}(h:SP (X.wish E) pins D f s'):SP X pins D f s':=by
 cases f with
 |next=>obtain⟨σ',H',I,q⟩:=h;exact⟨σ',H',I.unwish,q⟩
 |brk=>obtain⟨σ',H',I,q⟩:=h;exact⟨σ',H',I.unwish,q⟩
 |cont=>obtain⟨σ',H',I,q⟩:=h;exact⟨σ',H',I.unwish,q⟩
 |ret u=>obtain⟨v,σ',H',I,r,q⟩:=h;exact⟨v,σ',H',I.unwish,r,q⟩
theorem PSs.nox{st:List Stmt}{t:TS}(h:PSs X.nox st t):PSs X st t:=λpins s σ H D I hw=>
 wpAny_mono (h pins s σ H D (I.wish _) hw) (λ_ _ q=>q.unwish) λ_ _ z=>False.elim z
end
section
variable{X:Cx}{st:Stmt}{rest:List Stmt}{t u:TS}{e:Expr}{te:TE}{pos:Pos}
def tNext:TS:=λD σ H=>D.nx σ H
def Zke(t u:TS):TS:=λD σ H=>t { D with nx:=u D } σ H
theorem Yg:PSs X [] tNext:=λ_ _ σ H _ I h=>wpAny_execs_nil ⟨σ,H,I,h⟩
theorem Zq(h1:PS X st t)(h2:PSs X rest u):PSs X (st::rest) (Zke t u):=by
 intro pins s σ H D I h;refine wpAny_execs_cons (thn (h1 pins s σ H { D with nx:=u D } I h) λf s1 q => ?_);cases f with
 |next=>
  obtain⟨σ',H',I',q⟩:=q;exact h2 pins s1 σ' H' D I' q
 |ret v=>exact q
 |brk=>exact q
 |cont=>exact q
theorem Zu(h1:PS X st t):PSs X [st] t:=by
 intro pins s σ H D I h;refine wpAny_execs_cons (thn (h1 pins s σ H D I h) λf s1 q => ?_);cases f with
 |next=>exact wpAny_execs_nil q
 |ret v=>exact q
 |brk=>exact q
 |cont=>exact q
theorem Inv.quiet{pins:List (Addr×Obj)}{σ:St}{H:Hp}{s:Shared}(I:Inv X pins σ H s):interactive X.env=false:=by simp [interactive,I.ok.kind]
def Zg8(te:TE):TS:=λD σ H=>te σ H λ_ H1=>D.nx σ H1
theorem Xs(he:PE X e te)(hs:swapsWith e none pos.line X.env=pure false:=by rfl):PS X (.Expr e pos) (Zg8 te):=by
 intro pins s σ H D I h;exact wpAny_Expr_any (thn (he pins s σ H _ I h) λv s1 ⟨x,H1,I1,r1,q1⟩=>⟨σ,H1,I1,q1⟩) I.quiet hs
def Zkf(te:TE):TS:=λD σ H=>te σ H D.rt
theorem Z1(he:PE X e te):PS X (.Return (some e) pos) (Zkf te):=by
 intro pins s σ H D I h;exact wpAny_Return_some (thn (he pins s σ H _ I h) λv s1 ⟨x,H1,I1,r1,q1⟩=>⟨x,σ,H1,I1,r1,q1⟩)
def Zkg(c:TT)(t u:TS):TS:=λD σ H=>c σ H λb H1=>if b=true then t D σ H1 else u D σ H1
theorem Z9{c:Expr}{a b:List Stmt}{tc:TT}(hc:PT X c tc)(ha:PSs X a t)(hb:PSs X b u):PS X (.If c a b pos) (Zkg tc t u):=by
 intro pins s σ H D I h;refine wpAny_If (thn (hc pins s σ H _ I h) λd s1 ⟨H1,I1,q1⟩ => ?_);cases d with
 |true=>exact ha pins s1 σ H1 D I1 q1
 |false=>exact hb pins s1 σ H1 D I1 q1
def tNever:TS:=λ_ _ _=>False
theorem UW:PS X st tNever:=λ_ _ _ _ _ _ h=>h.elim
end
abbrev TG:=V->St->Hp->(St->Hp->Prop)->Prop
abbrev TGs:=List V->St->Hp->(St->Hp->Prop)->Prop
def PG(X:Cx)(target:Expr)(t:TG):Prop:=
 ∀(pins:List (Addr×Obj))(s:Shared)(σ:St)(H:Hp)(v:V)(u:Value)(Q:St->Hp->Prop),Inv X pins σ H s->RelV v u->t v σ H Q ->
  wpAny (model X.prog X.w) X.A (assign target X.env u) (λ_ s'=>∃σ' H',Inv X pins σ' H' s'/\Q σ' H') X.xe s
def PGs(X:Cx)(ts:List Expr)(t:TGs):Prop:=
 ∀(pins:List (Addr×Obj))(s:Shared)(σ:St)(H:Hp)(vs:List V)(us:List Value)(Q:St->Hp->Prop),Inv X pins σ H s->Vals vs us->t vs σ H Q ->
  wpAny (model X.prog X.w) X.A (assignInOrder ((assignEach ts X.env).map (·.2)) us) (λ_ s'=>∃σ' H',Inv X pins σ' H' s'/\Q σ' H') X.xe s
abbrev TSet:=V->V->V->Hp->(Hp->Prop)->Prop
def Zkh(X:Cx)(t:TSet):Prop:=
 ∀(pins:List (Addr×Obj))(s:Shared)(σ:St)(H:Hp)(o i v:V)(ov iv u:Value)(Q:Hp->Prop),Inv X pins σ H s->RelV o ov->RelV i iv->RelV v u->t o i v H Q ->
  wpAny (model X.prog X.w) X.A (setItem ov iv u) (λ_ s'=>∃H',Inv X pins σ H' s'/\Q H') X.xe s
section
variable{X:Cx}{pos:Pos}
def XG(i:Nat):TG:=λv σ H Q=>Q (σ.set i (some v)) H
theorem ZI{i:Nat}{x:Str}(hN:X.N.Nodup)(hi:X.N[i]? = some x:=by rfl)(hx:Loc X.env.scope x:=by first|exact Or.inl rfl|exact Or.inr rfl)(hf:X.fn x=true\/X.env.scope.names.lookup x=some .local:=by first|exact .inl rfl|exact .inr rfl|assumption):PG X (.Name x pos) (XG i):=by
 intro pins s σ H v u Q I r h;exact wpAny_assign_Name (ZbB I hN hi hx r (λs' I'=>⟨_,H,I',h⟩) hf)
def gNil:TGs:=λvs σ H Q=>vs=[]/\Q σ H
def Zg9(t:TG)(u:TGs):TGs:=λvs σ H Q=>∃v r,vs=v::r/\t v σ H λσ' H'=>u r σ' H' Q
theorem V4:PGs X [] gNil:=by
 intro pins s σ H vs us Q I r h;obtain⟨e,h⟩:=h;subst e;cases r;exact assignInOrder_nil ⟨σ,H,I,h⟩
theorem YV {e:Expr} {es:List Expr} {t:TG} {u:TGs} (h1:PG X e t) (h2:PGs X es u)
 (hs:(assignEach (e::es) X.env).map (·.2)=assign e X.env::(assignEach es X.env).map (·.2):=by rfl):PGs X (e::es) (Zg9 t u):=by
 intro pins s σ H vs us Q I r h;obtain⟨v,vr,e1,h⟩:=h;subst e1;cases r with
 |cons r rr=>
  rw [hs];refine assignInOrder_cons (thn (h1 pins s σ H _ _ _ I r h) λ_ s1 ⟨σ1,H1,I1,q1⟩ => ?_);exact h2 pins s1 σ1 H1 _ _ Q I1 rr q1
def UX(K:PySem.W.Frag)(n:Nat)(t:TGs):TG:=λv σ H Q=>∃a xs,v = .ref a/\SqT K H a xs/\xs.length=n/\t xs σ H Q
theorem ZhV {es:List Expr} {k:Nat} {t:TGs} {n:Nat} (hc:X.calm=true) (h:PGs X es t)
 (hn:(assignEach es X.env).length=n:=by rfl) (hst:(assignEach es X.env).findIdx? (·.1)=none:=by rfl):PG X (.Tuple es k pos) (UX X.K n t):=by
 intro pins s σ H v u Q I r hw;obtain⟨a,xs,e1,hq,hl,hw⟩:=hw;subst e1;cases r;obtain⟨its,rv,ht,hz⟩:=I.tuple hq;refine assign_Tuple_tuple (I.ok.hd hc) ht (by simp [hn,<-hl,rv.length]) hst λh' hx => ?_
 have I1:Inv X pins σ H { s with heap:=h' }:=I.kept (t':=s.toks) λb o e=>hx b o (Nat.ne_of_lt (Heap.lt_size e)) e
 exact h pins _ σ H xs _ Q I1 (by simpa using rv) hw
def Zki(to ti:TE)(t:TSet):TG:=λv σ H Q=>to σ H λo H1=>ti σ H1 λi H2=>t o i v H2 λH3=>Q σ H3
theorem JB {o i:Expr} {to ti:TE} {t:TSet} (ho:PE X o to) (hi:PE X i ti) (hs:Zkh X t)
 (ha:∀v,assign (.Subscript o i pos) X.env v=(do
   let ov <-holding [v] (eval o X.env)
   let iv <-holding [v,ov] (eval i X.env)
   standAt pos
   holding [v,ov,iv] (setItem ov iv v)
   release [v,ov,iv] []):=by intro _;rfl):PG X (.Subscript o i pos) (Zki to ti t):=by
 intro pins s σ H v u Q I r h;rw [ha];refine wpAny_bind (wpAny_holding (thn (ho pins s σ H _ I h) λov s1 ⟨x,H1,I1,r1,q1⟩ => ?_));refine wpAny_bind (wpAny_holding (thn (hi pins s1 σ H1 _ I1 q1) λiv s2 ⟨y,H2,I2,r2,q2⟩ => ?_));refine wpAny_bind (wpAny_standAt (wpAny_bind (wpAny_holding (thn (hs pins s2 σ H2 x y v ov iv u _ I2 r1 r2 r q2) λ_ s3 ⟨H3,I3,q3⟩ => ?_))));exact wpAny_release ⟨σ,H3,I3,q3⟩
def XH(te:TE)(g:TG):TS:=λD σ H=>te σ H λx H1=>g x σ H1 D.nx
theorem Uw {tg e:Expr} {te:TE} {g:TG} (he:PE X e te) (hg:PG X tg g) (hs:swapsWithSole [tg] e pos.line X.env=pure false:=by rfl) (hw:swappedStores [tg] e X.env=pure none:=by rfl)
 (h1:(assignEach [tg] X.env).map (·.2)=[assign tg X.env]:=by rfl):PS X (.Assign [tg] e pos) (XH te g):=by
 intro pins s σ H D I h;refine wpAny_Assign_stores (thn (he pins s σ H _ I h) λv s1 ⟨x,H1,I1,r1,q1⟩ => ?_) hs hw;rw [h1];exact thn (hg pins s1 σ H1 x v _ I1 r1 q1) λ_ s2 q=>q
theorem Zw{i:Nat}{x:Str}{e:Expr}{te:TE}{pos':Pos}(hN:X.N.Nodup)(hi:X.N[i]? = some x)(hx:Loc X.env.scope x)(he:PE X e te)(hs:swapsWith e (some (.Name x pos')) pos.line X.env=pure false:=by rfl)(hf:X.fn x=true\/X.env.scope.names.lookup x=some .local:=by first|exact .inl rfl|exact .inr rfl|assumption) :
 PS X (.Assign [.Name x pos'] e pos) (XH te (XG i)):=by
 intro pins s σ H D I h;refine wpAny_Assign_Name (thn (he pins s σ H _ I h) λv s1 ⟨y,H1,I1,r1,q1⟩ => ?_) hs;exact ZbB I1 hN hi hx r1 (λs2 I2=>⟨_,H1,I2,q1⟩) hf
end
section
variable{X:Cx}{pos:Pos}
def Zfe(c:TT)(tb:TS):TS:=λD σ H=>∃W:Nat->St->Hp->Prop,(∃m,W m σ H)/\∀m σ H,W m σ H ->
 c σ H λb H1=>if b=true then ∃N:St->Hp->Prop,(∀σ' H',N σ' H'->∃m',m'<m/\W m' σ' H')/\tb { D with nx:=N,ct:=N,bk:=D.nx } σ H1 else D.nx σ H1
theorem Zej{c:Expr}{body:List Stmt}{tc:TT}{tb:TS}(hp:PassesOwn (model X.prog X.w) X.A X.env X.xe)(hc:PT X c tc)(hb:PSs X body tb):PS X (.While c body [] pos) (Zfe tc tb):=by
 intro pins s σ H D I h;obtain⟨W,⟨m0,w0⟩,turn⟩:=h;refine wpAny_While (codeAny_whileLoop (λn s'=>∃σ' H',Inv X pins σ' H' s'/\W n σ' H') ?_ m0 ⟨σ,H,I,w0⟩)
 rintro n s1 ⟨σ1,H1,I1,w1⟩
 refine wpAny_passesOwn hp (thn (hc pins s1 σ1 H1 _ I1 (turn n σ1 H1 w1)) λb s2 ⟨H2,I2,q2⟩ => ?_);cases b with
 |true=>
  obtain⟨N,hN,q2⟩:=q2;rw [if_pos rfl];refine wpAny_passesOwn hp (thn (hb pins s2 σ1 H2 _ I2 q2) λf s3 q3 => ?_);cases f with
  |next=>
   obtain⟨σ3,H3,I3,n3⟩:=q3;obtain⟨m',hm,w3⟩:=hN σ3 H3 n3;exact⟨m',hm,σ3,H3,I3,w3⟩
  |cont=>
   obtain⟨σ3,H3,I3,n3⟩:=q3;obtain⟨m',hm,w3⟩:=hN σ3 H3 n3;exact⟨m',hm,σ3,H3,I3,w3⟩
  |brk=>exact q3
  |ret v=>exact q3
 |false=>
  rw [if_neg Bool.false_ne_true];exact wpAny_execs_nil ⟨σ1,H2,I2,q2⟩
end
structure It where
 go:Nat->Hp->Prop
 yld:Nat->Hp->V->Hp->Prop
 stop:Nat->Hp->Prop
def Xi(X:Cx)(pins:List (Addr×Obj))(H:Hp)(b:Addr):Prop:=
 H b=none/\b≠X.env.locals/\b∉X.fs/\(b∈X.ex\/X.s₀.heap.objs.size<=b)/\(∀x c,X.env.cells.lookup x=some c->c≠b)/\∀p∈X.pn++pins,p.1≠b
theorem Inv.fpOk{X:Cx}{pins:List (Addr×Obj)}{σ:St}{H H':Hp}{s:Shared}{b:Addr}(I:Inv X pins σ H s)(hb:s.heap.objs.size<=b)(hn:H' b=none):Xi X pins H' b:=by
 refine⟨hn,Nat.ne_of_gt (Nat.lt_of_lt_of_le I.lt hb),I.nofs hb,.inr (Nat.le_trans I.sz hb),λx c e z => ?_,λp hp z => ?_⟩
 · obtain⟨v,q⟩:=I.cell x c e
   exact absurd (Nat.lt_of_lt_of_le q.lt (by rw [z];exact hb)) (Nat.lt_irrefl _)
 · exact absurd (Nat.lt_of_lt_of_le (Heap.lt_size (I.pin p hp).1) (by rw [z];exact hb)) (Nat.lt_irrefl _)
structure Turn(P:Program)(w:World)(K:PySem.W.Frag)(tg:Expr)(J:It)(fp:List Addr)(it:Addr)(tn:Nat->Heap->Prop):Prop where
 mem:it∈fp
 obj:∀i h,tn i h->∀b∈fp,∃o,h.get? b=some o/\∀v,o.data ≠ .cell v
 keep:∀i h h',tn i h->(∀b∈fp,∀o,h.get? b=some o->h'.get? b=some o)->tn i h'
 item:∀(X:Cx),X.prog=P->X.w=w->X.K=K->X.calm=true->∀(i:Nat)(pins:List (Addr×Obj))(s:Shared)(σ:St)(H:Hp)(E:Value->Shared->Prop),Inv X pins σ H s->(∀b∈fp,Xi X pins H b)->tn i s.heap->J.go i H ->
  wpAny (model P w) X.A (pyNext (.ref it)) (λr s1=>∃u,r=some u /\
   wpAny (model P w) X.A (letOwnedTupleGo tg (.ref it) u) (λ_ s2=>∃x H',Inv X pins σ H' s2/\RelV x u/\J.yld i H x H'/\tn (i+1) s2.heap/\∀b∈fp,H' b=none) E s1) E s
 done:∀(X:Cx),X.prog=P->X.w=w->X.K=K->X.calm=true->∀(i:Nat)(pins:List (Addr×Obj))(s:Shared)(σ:St)(H:Hp)(E:Value->Shared->Prop),Inv X pins σ H s->(∀b∈fp,Xi X pins H b)->tn i s.heap->J.stop i H ->
  wpAny (model P w) X.A (pyNext (.ref it)) (λr s1=>r=none/\Inv X pins σ H s1) E s
 self:∀(A:Around)(i:Nat)(s:Shared)(Q:Value->Shared->Prop)(E:Value->Shared->Prop),tn i s.heap->Q (.ref it) s->wpAny (model P w) A (pyIter (.ref it)) Q E s
abbrev TI:=St->Hp->(It->Hp->Prop)->Prop
def PIE(X:Cx)(pins:List (Addr×Obj))(σ:St)(tg:Expr)(R:It->Hp->Prop)(itv:Value)(s2:Shared):Prop:=
 ∃(it:Addr) (fp:List Addr) (tn:Nat->Heap->Prop) (J:It) (H':Hp),itv = .ref it/\Inv X pins σ H' s2/\Turn X.prog X.w X.K tg J fp it tn/\tn 0 s2.heap/\(∀b∈fp,Xi X pins H' b)/\R J H'
def PI(X:Cx)(tg iter:Expr)(wi:TI):Prop:=
 ∀(pins:List (Addr×Obj))(s:Shared)(σ:St)(H:Hp)(R:It->Hp->Prop),Inv X pins σ H s->wi σ H R ->
  wpAny (model X.prog X.w) X.A (eval iter X.env) (λv s1=>wpAny (model X.prog X.w) X.A (pyIter v) (PIE X pins σ tg R) X.xe s1) X.xe s
theorem UY {M:Model} {A:Around} {E:Value->Shared->Prop} {s:Shared} {tg:Expr} {it:Addr} {u:Value} {o:Obj} {n:String} {vs:Array Value} {Q:Unit->Shared->Prop} (ho:s.heap.get? it=some o) (hc:o.cls = .type n) (hd:o.data = .fields vs)
 (hn:["enumerate", "zip", "dict_itemiterator", "dict_reverseitemiterator", "odict_iterator", "itertools.zip_longest", "itertools.pairwise"].contains n=false) (hQ:Q () s):wpAny M A (letOwnedTupleGo tg (.ref it) u) Q E s:=by
 unfold letOwnedTupleGo
 cases tg<;>first
  |exact wpAny_pure hQ
  | (cases u <;> first
      |exact wpAny_pure hQ
      | (refine wpAny_bind (wpAny_load ho ?_)
         rw [hc,hd];show wpAny M A (if(["enumerate", "zip", "dict_itemiterator", "dict_reverseitemiterator", "odict_iterator", "itertools.zip_longest", "itertools.pairwise"].contains n&&vs[0]? == some (rawInt _))=true then _ else _) Q E s;rw [if_neg (by intro h;rw [hn,Bool.false_and]at h;cases h)];exact wpAny_pure hQ))
def Itl(K:PySem.W.Frag)(a:Addr):It:=
 ⟨λi H=>∃xs x,SqL K H a xs/\xs[i]? = some x,λi H x H'=>H'=H/\∀xs,SqL K H a xs->xs[i]? = some x,λi H=>∃xs,SqL K H a xs/\xs.length<=i⟩
def Itt(K:PySem.W.Frag)(a:Addr):It:=
 ⟨λi H=>∃xs x,SqT K H a xs/\xs[i]? = some x,λi H x H'=>H'=H/\∀xs,SqT K H a xs->xs[i]? = some x,λi H=>∃xs,SqT K H a xs/\xs.length<=i⟩
def Itr(lo:Int)(n:Nat):It:=⟨λi _=>i<n,λi H x H'=>H'=H/\x = .int (lo+i),λi _=>n<=i⟩
theorem ZdC{P:Program}{w:World}{K:PySem.W.Frag}{tg:Expr}(a it:Addr):Turn P w K tg (Itl K a) [it] it (λi h=>h.IsListIter it a i) where
 mem:=by simp
 obj:=λi h st b hb=>by
  have e:b=it:=by simpa using hb
  subst e;obtain⟨o,e,c,d⟩:=st;exact⟨o,e,λv z=>by rw [d]at z;cases z⟩
 keep:=λi h h' st k=>st.at λo e=>k it (by simp) o e
 item:=by
  intro X hP hw hK hc i pins s σ H E I hf st hg;subst hP hw hK;obtain⟨xs,x,hq,hx⟩:=hg;obtain⟨its,rv,p,hz⟩:=I.list hq;obtain⟨u,hu,ru⟩:=rv.get hx;obtain⟨f0,f1,f2,f3,f4,f5⟩:=hf it (by simp);refine wpAny_pyNext_list_item st p.isList (x:=u) (by simpa using hu) λh' st' sb => ?_
  have I1:Inv X pins σ H { s with heap:=h' }:=I.turned (t':=s.toks) (λb o hb e=>(sb.2 b hb).trans e) f0 f1 f3 f4 f5;obtain⟨o,e,c,d⟩:=id st';exact⟨u,rfl,UY (s:={ s with heap:=h' }) e c d (by decide) ⟨x,H,I1,ru,⟨rfl,λys hy=>by rw [I.list_inj hy hq];exact hx⟩,st',λb hb=>(hf b hb).1⟩⟩
 done:=by
  intro X hP hw hK hc i pins s σ H E I hf st hg;subst hP hw hK;obtain⟨xs,hq,hx⟩:=hg;obtain⟨its,rv,p,hz⟩:=I.list hq;obtain⟨f0,f1,f2,f3,f4,f5⟩:=hf it (by simp);have hl:=rv.length;exact wpAny_pyNext_list_end (I.ok.hd hc) st p.isList (by simp;omega) λh' eb=>⟨rfl,I.turned (t':=s.toks) (λb o hb e=>eb b o hb e) f0 f1 f3 f4 f5⟩
 self:=λ_ _ _ _ _ st h=>wpAny_pyIter_listiter st h
theorem Zas{P:Program}{w:World}{K:PySem.W.Frag}{tg:Expr}(a it:Addr):Turn P w K tg (Itt K a) [it] it (λi h=>h.IsTupleIter it a i) where
 mem:=by simp
 obj:=λi h st b hb=>by
  have e:b=it:=by simpa using hb
  subst e;obtain⟨o,e,c,d⟩:=st;exact⟨o,e,λv z=>by rw [d]at z;cases z⟩
 keep:=λi h h' st k=>st.at λo e=>k it (by simp) o e
 item:=by
  intro X hP hw hK hc i pins s σ H E I hf st hg;subst hP hw hK;obtain⟨xs,x,hq,hx⟩:=hg;obtain⟨its,rv,p,hz⟩:=I.tuple hq;obtain⟨u,hu,ru⟩:=rv.get hx;obtain⟨f0,f1,f2,f3,f4,f5⟩:=hf it (by simp);refine wpAny_pyNext_tuple_item st (show s.heap.IsTuple a its.toArray from p) (x:=u) (by simpa using hu) λh' st' sb => ?_
  have I1:Inv X pins σ H { s with heap:=h' }:=I.turned (t':=s.toks) (λb o hb e=>(sb.2 b hb).trans e) f0 f1 f3 f4 f5;obtain⟨o,e,c,d⟩:=id st';exact⟨u,rfl,UY (s:={ s with heap:=h' }) e c d (by decide) ⟨x,H,I1,ru,⟨rfl,λys hy=>by rw [I.tuple_inj hy hq];exact hx⟩,st',λb hb=>(hf b hb).1⟩⟩
 done:=by
  intro X hP hw hK hc i pins s σ H E I hf st hg;subst hP hw hK;obtain⟨xs,hq,hx⟩:=hg;obtain⟨its,rv,p,hz⟩:=I.tuple hq;obtain⟨f0,f1,f2,f3,f4,f5⟩:=hf it (by simp);have hl:=rv.length;exact wpAny_pyNext_tuple_end (I.ok.hd hc) st (show s.heap.IsTuple a its.toArray from p) (by simp;omega) λh' eb=>⟨rfl,I.turned (t':=s.toks) (λb o hb e=>eb b o hb e) f0 f1 f3 f4 f5⟩
 self:=λ_ _ _ _ _ st h=>wpAny_pyIter_tupleiter st h
theorem Zb5{P:Program}{w:World}{K:PySem.W.Frag}{tg:Expr}(it:Addr)(lo:Int)(n:Nat):Turn P w K tg (Itr lo n) [it] it (λi h=>IsRangeIter h it (lo+(i:Nat)*1) ((n:Int)-(i:Nat)) 1) where
 mem:=by simp
 obj:=λi h st b hb=>by
  have e:b=it:=by simpa using hb
  subst e
  exact⟨_,st,λv z=>by
   have z':Data.fields _=Data.cell v:=z;cases z'⟩
 keep:=λi h h' st k=>k it (by simp) _ st
 item:=by
  intro X hP hw hK hc i pins s σ H E I hf st hg;subst hP hw hK;obtain⟨f0,f1,f2,f3,f4,f5⟩:=hf it (by simp);have W:=Walks.range (prog:=X.prog) (w:=X.w) (I.ok.hd hc) it lo 1 n;refine W.item i s _ _ hg st λv h' tk hv st' kk => ?_
  obtain⟨t,rfl⟩:=hv;have I1:Inv X pins σ H { s with heap:=h',toks:=tk }:=I.turned (λb o hb e=>kk b o (by simpa using hb) e) f0 f1 f3 f4 f5;refine⟨_,rfl,UY (s:={ s with heap:=h',toks:=tk }) (n:="range_iterator") st' rfl rfl (by decide) ⟨.int (lo+i),H,I1,⟨t,?_⟩,⟨rfl,rfl⟩,st',λb hb=>(hf b hb).1⟩⟩;rw [Int.mul_one]
 done:=by
  intro X hP hw hK hc i pins s σ H E I hf st hg;subst hP hw hK;obtain⟨f0,f1,f2,f3,f4,f5⟩:=hf it (by simp);exact wpAny_pyNext_range_end (I.ok.hd hc) st (by have:n<=i:=hg;omega) λh' eb=>⟨rfl,I.turned (t':=s.toks) (λb o hb e=>eb b o hb e) f0 f1 f3 f4 f5⟩
 self:=λ_ _ _ _ _ st h=>wpAny_pyIter_rangeiter st h
end L2
namespace L2
open PySem PySem.Spec PyProof.Rows
section
variable{X:Cx}{tg:Expr}
def ZkL(K:PySem.W.Frag)(tl:TE):TI:=λσ H R=>tl σ H λx H1=>∃a,x = .ref a/\(∃xs,SqT K H1 a xs)/\R (Itt K a) H1
theorem ZhW{l:Expr}{tl:TE}(hl:PE X l tl):PI X tg l (ZkL X.K tl):=by
 intro pins s σ H R I h;refine thn (hl pins s σ H _ I h) λv s1 ⟨x,H1,I1,r1,q1⟩ => ?_
 obtain⟨a,e,⟨xs,hq⟩,q⟩:=q1;subst e;cases r1;obtain⟨its,rv,p,hz⟩:=I1.tuple hq;refine wpAny_pyIter_tuple (show s1.heap.IsTuple a its.toArray from p) ?_;refine⟨s1.heap.objs.size,[s1.heap.objs.size],_,_,H1,rfl,I1.kept (t':=s1.toks) λb o e=>Heap.get?_push_of_some _ e,Zas a _,⟨_,Heap.get?_push_size _ rfl,rfl,rfl⟩,λb hb => ?_,q⟩;have e:b=s1.heap.objs.size:=by simpa using hb
 subst e;exact I1.fpOk (Nat.le_refl _) (I1.hok.fresh (Nat.le_refl _))
theorem ZbC {pins:List (Addr×Obj)} {σ:St} {H:Hp} {s:Shared} {R:It->Hp->Prop} {E:Value->Shared->Prop} {lo hi:Int} {t u v:Tok} {tk:Nat} (I:Inv X pins σ H s) (h1 : -(2 ^ 62)<=lo) (h2:lo<2 ^ 62) (h3 : -(2 ^ 62)<=hi) (h4:hi<2 ^ 62)
 (q:R (Itr lo (hi-lo).toNat) H):wpAny (model X.prog X.w) X.A (pyIter (.ref s.heap.objs.size)) (PIE X pins σ tg R) E { s with heap:=s.heap.push { cls := .type "range",data := .fields #[.int lo t,.int hi u,.int 1 v] },toks:=tk }:=by
 refine wpAny_pyIter_range (IsRange.new ..) (small_one h1 h2 h3 h4) ?_;have I1:Inv X pins σ H { s with heap:=s.heap.push { cls := .type "range",data := .fields #[.int lo t,.int hi u,.int 1 v] },toks:=tk }:=I.kept λb o e=>Heap.get?_push_of_some _ e
 refine⟨(s.heap.push { cls := .type "range",data := .fields #[.int lo t,.int hi u,.int 1 v] }).objs.size,[(s.heap.push { cls := .type "range",data := .fields #[.int lo t,.int hi u,.int 1 v] }).objs.size],_,_,H,rfl,
  I1.kept (t':=tk) λb o e=>Heap.get?_push_of_some _ e,Zb5 _ lo (hi-lo).toNat,?_,λb hb => ?_,q⟩
 · have e1:lo+((0:Nat):Int)*1=lo:=by simp
   have e2:(((hi-lo).toNat:Nat):Int)-((0:Nat):Int)=Builtin.Range.rangeSize lo hi 1:=by rw [rangeSize_one];split<;>omega
   show IsRangeIter _ _ (lo+((0:Nat):Int)*1) ((((hi-lo).toNat:Nat):Int)-((0:Nat):Int)) 1;rw [e1,e2];exact Heap.get?_push_size _ rfl
 · have e:b=(s.heap.push { cls := .type "range",data := .fields #[.int lo t,.int hi u,.int 1 v] }).objs.size:=by simpa using hb
   subst e;exact I1.fpOk (Nat.le_refl _) (I1.hok.fresh (Nat.le_refl _))
def Zha(ta:TA):TI:=λσ H R=>ta σ H λvs H1=>∃j:Int,vs=[.int j] /\ -(2 ^ 62)<=j/\j<2 ^ 62/\R (Itr 0 j.toNat) H1
def Zhb(ta:TA):TI:=λσ H R=>ta σ H λvs H1=>∃i j:Int,vs=[.int i,.int j]/\(-(2 ^ 62)<=i/\i<2 ^ 62 /\ -(2 ^ 62)<=j/\j<2 ^ 62)/\R (Itr i (j-i).toNat) H1
theorem Y8 {a:Expr} {ta:TA} {p pos:Pos} (hg:Gl X "range") (hm:X.mg "range" = none) (ha:PA X [a] ta) (hs:starEach [a] X.env=[(false,eval a X.env)]:=by rfl):PI X tg (.Call (.Name "range" p) [a] [] pos) (Zha ta):=by
 intro pins s σ H R I h;refine Call_ (Vf I hg hm boot_range (PyProof.Rows.callWith_type1 (thn (ha pos pins s σ H _ I h) λus s1 ⟨vs,H1,I1,r1,q1⟩ => ?_) hs rfl));obtain⟨j,e,q1,q2,q⟩:=q1;subst e;cases r1 with
 |cons r rr=>
  cases rr;obtain⟨t,rfl⟩:=r;exact call_range_1 (ZbC I1 (by omega) (by omega) q1 q2 (by simpa using q))
theorem ZdD {a b:Expr} {ta:TA} {p pos:Pos} (hg:Gl X "range") (hm:X.mg "range" = none) (ha:PA X [a,b] ta) (hs:starEach [a,b] X.env=[(false,eval a X.env),(false,eval b X.env)]:=by rfl) (hs2:starEach [b] X.env=[(false,eval b X.env)]:=by rfl) :
 PI X tg (.Call (.Name "range" p) [a,b] [] pos) (Zhb ta):=by
 intro pins s σ H R I h;refine Call_ (Vf I hg hm boot_range (PyProof.Rows.callWith_type1 (thn (ha pos pins s σ H _ I h) λus s1 ⟨vs,H1,I1,r1,q1⟩ => ?_) (by rw [hs,hs2]) (by rw [hs2];rfl)));obtain⟨i,j,e,⟨q1,q2,q3,q4⟩,q⟩:=q1;subst e;cases r1 with
 |cons r rr=>
  cases rr with
  |cons r' rr=>
   cases rr;obtain⟨t,rfl⟩:=r;obtain⟨t',rfl⟩:=r';exact call_range_2 (ZbC I1 q1 q2 q3 q4 q)
def JC(wi:TI)(g:TG)(tb:TS):TS:=λD σ H=>wi σ H λJ H1=>∃W:Nat->Nat->St->Hp->Prop,(∃m,W 0 m σ H1)/\∀i m σ H,W i m σ H ->
 (J.stop i H/\D.nx σ H)\/(J.go i H/\∃N:St->Hp->Prop,(∀σ' H',N σ' H'->∃m',m'<m/\W (i+1) m' σ' H')/\∀x H',J.yld i H x H'->g x σ H' λσ2 H2=>tb { D with nx:=N,ct:=N,bk:=D.nx } σ2 H2)
def X0(fp:List Addr)(h:Heap):List (Addr×Obj):=fp.filterMap λb=>(h.get? b).map λo=>(b,o)
theorem QJ{fp:List Addr}{h:Heap}{b:Addr}{o:Obj}(hb:b∈fp)(e:h.get? b=some o):(b,o)∈X0 fp h:=List.mem_filterMap.mpr ⟨b,hb,by rw [e];rfl⟩
theorem ZaO{fp:List Addr}{h:Heap}{p:Addr×Obj}(hp:p∈X0 fp h):p.1∈fp/\h.get? p.1=some p.2:=by
 obtain⟨b,hb,e⟩:=List.mem_filterMap.mp hp;cases q:h.get? b with
 |none=>rw [q]at e;cases e
 |some o=>
  rw [q]at e;have e':(b,o)=p:=Option.some.inj e;subst e';exact⟨hb,q⟩
theorem Inv.pinned{pins:List (Addr×Obj)}{σ:St}{H:Hp}{s:Shared}{fp:List Addr}(I:Inv X pins σ H s)(hf:∀b∈fp,Xi X pins H b)(ho:∀b∈fp,∃o,s.heap.get? b=some o/\∀v,o.data ≠ .cell v):Inv X (pins++X0 fp s.heap) σ H s:=
 I.pins_of λp hp=>(List.mem_append.mp hp).elim (λz=>I.pin p (List.mem_append_right _ z)) λz=>by
  obtain⟨hb,e⟩:=ZaO z;obtain⟨f0,f1,f2,_⟩:=hf p.1 hb;obtain⟨o,e',d⟩:=ho p.1 hb;rw [e]at e';cases e';exact⟨e,f0,f1,f2,d⟩
theorem Inv.unpinned{pins pl:List (Addr×Obj)}{σ:St}{H:Hp}{s:Shared}(I:Inv X (pins++pl) σ H s):Inv X pins σ H s:=I.pins_of λp hp=>I.pin p (List.mem_append_right _ (List.mem_append_left _ hp))
theorem Yh {iter:Expr} {body:List Stmt} {wi:TI} {g:TG} {tb:TS} {pos:Pos} (hp:PassesOwn (model X.prog X.w) X.A X.env X.xe) (hc:X.calm=true) (hi:PI X tg iter wi) (hg:PG X tg g) (hb:PSs X body tb)
 (hs:∀x,foldedSetIterable iter X.env x=pure x:=by intro _;rfl):PS X (.For tg iter body [] pos) (JC wi g tb):=by
 intro pins s σ H D I h;refine wpAny_For (thn (hi pins s σ H _ I h) λv s1 h1=>thn h1 λitv s2 h2 => ?_) hs;obtain⟨it,fp,tn,J,H2,e,I2,T,st2,f2,W,⟨m0,w0⟩,turn⟩:=h2;subst e;have stat:∀{H':Hp},(∀b∈fp,H' b=none)->∀b∈fp,Xi X pins H' b:=λhn b hb=>⟨hn b hb,(f2 b hb).2⟩
 refine codeAny_forLoop_any (λn s'=>∃i σ' H',Inv X pins σ' H' s'/\tn i s'.heap/\(∀b∈fp,H' b=none)/\W i n σ' H') ?_ m0 ⟨0,σ,H2,I2,st2,λb hb=>(f2 b hb).1,w0⟩
 rintro n s3 ⟨i,σ3,H3,I3,st3,fr3,w3⟩
 rcases turn i n σ3 H3 w3 with⟨stop,qn⟩|⟨go,N,hN,step⟩
 · refine wpAny_passesOwn hp (thn (T.done X rfl rfl rfl hc i pins s3 σ3 H3 X.xe I3 (stat fr3) st3 stop) λr s4 ⟨hr,I4⟩ => ?_)
   subst hr;exact wpAny_execs_nil ⟨σ3,H3,I4,qn⟩
 · refine wpAny_passesOwn hp (thn (T.item X rfl rfl rfl hc i pins s3 σ3 H3 X.xe I3 (stat fr3) st3 go) λr s4 ⟨u,hr,h4⟩ => ?_)
   subst hr;refine wpAny_passesOwn hp (thn h4 λ_ s5 ⟨x,H5,I5,r5,y5,st5,fr5⟩ => ?_);have I5':=I5.pinned (stat fr5) (T.obj _ _ st5);refine wpAny_passesOwn hp (thn (hg _ s5 σ3 H5 x u _ I5' r5 (step x H5 y5)) λ_ s6 ⟨σ6,H6,I6,q6⟩ => ?_);refine wpAny_passesOwn hp (thn (hb _ s6 σ6 H6 _ I6 q6) λf s7 q7 => ?_)
   have again:∀{σ7:St}{H7:Hp},Inv X (pins++X0 fp s5.heap) σ7 H7 s7->N σ7 H7->∃m,m<n/\∃i σ' H',Inv X pins σ' H' s7/\tn i s7.heap/\(∀b∈fp,H' b=none)/\W i m σ' H':=λ{σ7 H7} I7 n7=>by
    obtain⟨m',hm,w7⟩:=hN σ7 H7 n7;refine⟨m',hm,i+1,σ7,H7,I7.unpinned,T.keep _ _ _ st5 λb hb o e=>(I7.pin (b,o) (List.mem_append_right _ (List.mem_append_right _ (QJ hb e)))).1,λb hb => ?_,w7⟩;obtain⟨o,e,d⟩:=T.obj _ _ st5 b hb;exact(I7.pin (b,o) (List.mem_append_right _ (List.mem_append_right _ (QJ hb e)))).2.1
   cases f with
   |next=>obtain⟨σ7,H7,I7,n7⟩:=q7;exact again I7 n7
   |cont=>obtain⟨σ7,H7,I7,n7⟩:=q7;exact again I7 n7
   |brk=>obtain⟨σ7,H7,I7,q7⟩:=q7;exact⟨σ7,H7,I7.unpinned,q7⟩
   |ret v=>obtain⟨x7,σ7,H7,I7,r7,q7⟩:=q7;exact⟨x7,σ7,H7,I7.unpinned,r7,q7⟩
end
end L2
namespace L2
open PySem PySem.Spec PyProof.Rows
abbrev R2:=V->V->Hp->VK->Prop
def OpR(X:Cx)(f:Value->Value->Sem Value)(r:R2):Prop:=
 ∀(pins:List (Addr×Obj))(s:Shared)(σ:St)(H:Hp)(x y:V)(v u:Value)(Q:VK),Inv X pins σ H s->RelV x v->RelV y u->r x y H Q ->
  wpAny (model X.prog X.w) X.A (f v u) (EP X pins σ Q) X.xe s
def YG(X:Cx)(f:Value)(r:List V->Hp->VK->Prop):Prop:=
 ∀(pins:List (Addr×Obj))(s:Shared)(σ:St)(H:Hp)(xs:List V)(us:List Value)(Q:VK),Inv X pins σ H s->Vals xs us->r xs H Q ->
  wpAny (model X.prog X.w) X.A (call f us) (EP X pins σ Q) X.xe s
def tOp(r:R2)(ta tb:TE):TE:=λσ H Q=>ta σ H λx H1=>tb σ H1 λy H2=>r x y H2 Q
def rI(C:Int->Int->Prop)(g:Int->Int->V):R2:=λx y H Q=>∃i j,x = .int i/\y = .int j/\C i j/\Q (g i j) H
def rI0(g:Int->Int->V):R2:=λx y H Q=>∃i j,x = .int i/\y = .int j/\Q (g i j) H
section
variable{X:Cx}{a b c:Expr}{ta tb tc:TE}{pos:Pos}
theorem Zkj (ha:PE X a ta) (hb:PE X b tb) {pins:List (Addr×Obj)} {s:Shared} {σ:St} {H:Hp} {R:V->V->Hp->Prop} (I:Inv X pins σ H s)
 (h:ta σ H λx H1=>tb σ H1 λy H2=>R x y H2) {Q:Value->Shared->Prop} {f:Value->Value->Sem Value}
 (hf:∀v u s2 x y H2,Inv X pins σ H2 s2->RelV x v->RelV y u->R x y H2->wpAny (model X.prog X.w) X.A (f v u) Q X.xe s2) :
 wpAny (model X.prog X.w) X.A (eval a X.env) (λv s₁=>wpAny (model X.prog X.w) X.A (eval b X.env) (λu s₂=>wpAny (model X.prog X.w) X.A (f v u) Q X.xe s₂) X.xe s₁) X.xe s:=by
 refine thn (ha pins s σ H _ I h) λv s1 ⟨x,H1,I1,r1,q1⟩ => ?_
 refine thn (hb pins s1 σ H1 _ I1 q1) λu s2 ⟨y,H2,I2,r2,q2⟩ => ?_
 exact hf v u s2 x y H2 I2 r1 r2 q2
theorem Zt{op:Operator}{r:R2}(ho:OpR X (binaryOp op) r)(ha:PE X a ta)(hb:PE X b tb):PE X (.BinOp a op b pos) (tOp r ta tb):=by
 intro pins s σ H Q I h;exact wpAny_BinOp (Zkj ha hb I h λv u s2 x y H2 I2 rx ry q=>ho pins s2 σ H2 x y v u Q I2 rx ry q)
theorem opI {f:Value->Value->Sem Value} {C:Int->Int->Prop} {g:Int->Int->Int}
 (rule:∀(i j:Int)(t u:Tok)(s:Shared)(Q:Value->Shared->Prop)(E:Value->Shared->Prop),C i j->Q (.int (g i j) s.toks) { s with toks:=s.toks+1 }->wpAny (model X.prog X.w) X.A (f (.int i t) (.int j u)) Q E s) :
 OpR X f (rI C λi j => .int (g i j)):=by
 intro pins s σ H x y v u Q I rx ry h;obtain⟨i,j,rfl,rfl,hc,q⟩:=h;obtain⟨t,rfl⟩:=rx;obtain⟨t',rfl⟩:=ry;exact rule i j t t' s _ _ hc ⟨.int (g i j),H,I.tok _,⟨_,rfl⟩,q⟩
theorem Zkk {f:Value->Value->Sem Value} {g:Int->Int->Int}
 (rule:∀(i j:Int)(t u:Tok)(s:Shared)(Q:Value->Shared->Prop)(E:Value->Shared->Prop),Q (.int (g i j) s.toks) { s with toks:=s.toks+1 }->wpAny (model X.prog X.w) X.A (f (.int i t) (.int j u)) Q E s) :
 OpR X f (rI0 λi j => .int (g i j)):=by
 intro pins s σ H x y v u Q I rx ry h;obtain⟨i,j,rfl,rfl,q⟩:=h;obtain⟨t,rfl⟩:=rx;obtain⟨t',rfl⟩:=ry;exact rule i j t t' s _ _ ⟨.int (g i j),H,I.tok _,⟨_,rfl⟩,q⟩
theorem JD {f:Value->Value->Sem Value} {g:Int->Int->Bool}
 (rule:∀(i j:Int)(t u:Tok)(s:Shared)(Q:Value->Shared->Prop)(E:Value->Shared->Prop),Q (.bool (g i j)) s->wpAny (model X.prog X.w) X.A (f (.int i t) (.int j u)) Q E s) :
 OpR X f (rI0 λi j => .bl (g i j)):=by
 intro pins s σ H x y v u Q I rx ry h;obtain⟨i,j,rfl,rfl,q⟩:=h;obtain⟨t,rfl⟩:=rx;obtain⟨t',rfl⟩:=ry;exact rule i j t t' s _ _ ⟨.bl (g i j),H,I,rfl,q⟩
def UZ(i j:Int):Prop:=0<j/\j<1073741824
def Zkl(i j:Int):Prop:=0<=j/\j<=1000000/\i.natAbs<2 ^ 64
def CMul(i j:Int):Prop:=(-(2 ^ 64)<i/\i<2 ^ 64)\/(-(2 ^ 64)<j/\j<2 ^ 64)
theorem CMul.ok{i j:Int}(h:CMul i j):IntMulOk i j:=by
 rcases h with⟨h1,h2⟩|⟨h1,h2⟩
 · exact .of_left (intBits_le_64 h1 h2)
 · exact .of_right (intBits_le_64 h1 h2)
theorem op_add:OpR X (binaryOp .Add) (rI0 λi j => .int (i+j)):=Zkk λ_ _ _ _ _ _ _ q=>add_int q
theorem JE:OpR X (binaryOp .Sub) (rI0 λi j => .int (i-j)):=Zkk λ_ _ _ _ _ _ _ q=>sub_int q
theorem Yo:OpR X (binaryOp .Mod) (rI (λ_ j=>j≠0) λi j => .int (i.fmod j)):=opI λ_ _ _ _ _ _ _ hc q=>mod_int' hc q
end
def scal:V->V->Bool
 | .non,.non=>true | .non,.int _=>true | .int _,.non=>true | .non,.bl _=>true | .bl _,.non=>true | .non,.str _=>true | .str _,.non=>true
 | .int _,.int _=>true | .bl _,.bl _=>true | .str _,.str _=>true | .byt _,.byt _=>true
 | .int _,.str _=>true | .str _,.int _=>true | .bl _,.str _=>true | .str _,.bl _=>true
 |_,_=>false
def rEq:R2:=λx y H Q=>scal x y=true/\Q (.bl (decide (x=y))) H
def rNe:R2:=λx y H Q=>scal x y=true/\Q (.bl (!decide (x=y))) H
theorem ZcP{i j:Int}:decide (V.int i=V.int j)=(i == j):=by
 rw [Bool.eq_iff_iff];simp
theorem Zff{i j:Bool}:decide (V.bl i=V.bl j)=(i == j):=by
 rw [Bool.eq_iff_iff];simp
theorem ZcQ{i j:Str}:decide (V.str i=V.str j)=(i == j):=by
 rw [Bool.eq_iff_iff];simp
theorem ZcR{i j:Array UInt8}:decide (V.byt i=V.byt j)=(i.toList == j.toList):=by
 rw [Bool.eq_iff_iff];cases i;cases j;simp
section
variable{X:Cx}{a b c:Expr}{ta tb tc:TE}{pos:Pos}
theorem ZU{pins:List (Addr×Obj)}{σ:St}{H:Hp}{s:Shared}{Q:VK}{k k':Bool}(I:Inv X pins σ H s)(q:Q (.bl k) H)(e:k=k'):EP X pins σ Q (.bool k') s:=by
 subst e;exact⟨.bl k,H,I,rfl,q⟩
theorem ZiT:OpR X (compareOp .Eq) rEq:=by
 intro pins s σ H x y v u Q I rx ry h;obtain⟨hs,q⟩:=h;cases x with
 |non=>
  cases rx;cases y with
  |non=>cases ry;exact PySem.EqNone.eq_none_none (ZU I q (by simp))
  |bl j=>cases ry;exact PySem.EqNone.eq_none_bool (ZU I q (by simp))
  |int j=>obtain⟨t',rfl⟩:=ry;exact PySem.EqNone.eq_none_int (ZU I q (by simp))
  |str j=>obtain⟨t',rfl⟩:=ry;exact PySem.EqNone.eq_none_str (ZU I q (by simp))
  |_=>exact absurd (show false=true from hs) Bool.false_ne_true
 |bl i=>
  cases rx;cases y with
  |non=>cases ry;exact PySem.EqNone.eq_bool_none (ZU I q (by simp))
  |bl j=>cases ry;exact eq_bool (ZU I q Zff)
  |str j=>obtain⟨t',rfl⟩:=ry;exact PySem.EqMixed.eq_bool_str (ZU I q (by simp))
  |_=>exact absurd (show false=true from hs) Bool.false_ne_true
 |int i=>
  obtain⟨t,rfl⟩:=rx;cases y with
  |non=>cases ry;exact PySem.EqNone.eq_int_none (ZU I q (by simp))
  |int j=>obtain⟨t',rfl⟩:=ry;exact eq_int (ZU I q ZcP)
  |str j=>obtain⟨t',rfl⟩:=ry;exact PySem.EqMixed.eq_int_str (ZU I q (by simp))
  |_=>exact absurd (show false=true from hs) Bool.false_ne_true
 |str i=>
  obtain⟨t,rfl⟩:=rx;cases y with
  |non=>cases ry;exact PySem.EqNone.eq_str_none (ZU I q (by simp))
  |bl j=>cases ry;exact PySem.EqMixed.eq_str_bool (ZU I q (by simp))
  |int j=>obtain⟨t',rfl⟩:=ry;exact PySem.EqMixed.eq_str_int (ZU I q (by simp))
  |str j=>obtain⟨t',rfl⟩:=ry;exact eq_str (ZU I q ZcQ)
  |_=>exact absurd (show false=true from hs) Bool.false_ne_true
 |byt i=>
  obtain⟨t,rfl⟩:=rx;cases y with
  |byt j=>obtain⟨t',rfl⟩:=ry;exact PySem.W.eq_bytes (ZU I q ZcR)
  |_=>exact absurd (show false=true from hs) Bool.false_ne_true
 |_=>cases y<;>exact absurd (show false=true from hs) Bool.false_ne_true
theorem ZiU:OpR X (compareOp .NotEq) rNe:=by
 intro pins s σ H x y v u Q I rx ry h;obtain⟨hs,q⟩:=h;cases x with
 |non=>
  cases rx;cases y with
  |non=>cases ry;exact PySem.EqNone.ne_none_none (ZU I q (by simp))
  |bl j=>cases ry;exact PySem.EqNone.ne_none_bool (ZU I q (by simp))
  |int j=>obtain⟨t',rfl⟩:=ry;exact PySem.EqNone.ne_none_int (ZU I q (by simp))
  |str j=>obtain⟨t',rfl⟩:=ry;exact PySem.EqNone.ne_none_str (ZU I q (by simp))
  |_=>exact absurd (show false=true from hs) Bool.false_ne_true
 |bl i=>
  cases rx;cases y with
  |non=>cases ry;exact PySem.EqNone.ne_bool_none (ZU I q (by simp))
  |bl j=>cases ry;exact ne_bool (ZU I q (congrArg not Zff))
  |str j=>obtain⟨t',rfl⟩:=ry;exact PySem.EqMixed.ne_bool_str (ZU I q (by simp))
  |_=>exact absurd (show false=true from hs) Bool.false_ne_true
 |int i=>
  obtain⟨t,rfl⟩:=rx;cases y with
  |non=>cases ry;exact PySem.EqNone.ne_int_none (ZU I q (by simp))
  |int j=>obtain⟨t',rfl⟩:=ry;exact ne_int (ZU I q (congrArg not ZcP))
  |str j=>obtain⟨t',rfl⟩:=ry;exact PySem.EqMixed.ne_int_str (ZU I q (by simp))
  |_=>exact absurd (show false=true from hs) Bool.false_ne_true
 |str i=>
  obtain⟨t,rfl⟩:=rx;cases y with
  |non=>cases ry;exact PySem.EqNone.ne_str_none (ZU I q (by simp))
  |bl j=>cases ry;exact PySem.EqMixed.ne_str_bool (ZU I q (by simp))
  |int j=>obtain⟨t',rfl⟩:=ry;exact PySem.EqMixed.ne_str_int (ZU I q (by simp))
  |str j=>obtain⟨t',rfl⟩:=ry;exact ne_str (ZU I q (congrArg not ZcQ))
  |_=>exact absurd (show false=true from hs) Bool.false_ne_true
 |byt i=>
  obtain⟨t,rfl⟩:=rx;cases y with
  |byt j=>obtain⟨t',rfl⟩:=ry;exact PySem.W.ne_bytes (ZU I q (congrArg not ZcR))
  |_=>exact absurd (show false=true from hs) Bool.false_ne_true
 |_=>cases y<;>exact absurd (show false=true from hs) Bool.false_ne_true
theorem Ux:OpR X (compareOp .Lt) (rI0 λi j => .bl (decide (i<j))):=JD λ_ _ _ _ _ _ _ q=>lt_int q
theorem ZiV:OpR X (compareOp .LtE) (rI0 λi j => .bl (decide (i<=j))):=JD λ_ _ _ _ _ _ _ q=>le_int q
theorem QK:OpR X (compareOp .Gt) (rI0 λi j => .bl (decide (j<i))):=JD λ_ _ _ _ _ _ _ q=>gt_int q
theorem ZdE:OpR X (compareOp .In) (λx y H Q=>∃i j,x = .str i/\y = .str j/\Q (.bl (!(Builtin.Str.occurrences j i 0 j.length 1).isEmpty)) H):=by
 intro pins s σ H x y v u Q I rx ry h;obtain⟨i,j,rfl,rfl,q⟩:=h;obtain⟨t,rfl⟩:=rx;obtain⟨t',rfl⟩:=ry;exact in_str (ZU I q rfl)
theorem OpR.or{f:Value->Value->Sem Value}{r r':R2}(h:OpR X f r)(h':OpR X f r'):OpR X f (λx y H Q=>r x y H Q\/r' x y H Q):=by
 intro pins s σ H x y v u Q I rx ry q;rcases q with q|q
 · exact h pins s σ H x y v u Q I rx ry q
 · exact h' pins s σ H x y v u Q I rx ry q
theorem Yp(b:Expr){op:CmpOp}(h:op ≠ .In:=by decide)(h2:op ≠ .NotIn:=by decide):behindInMarks op b=false:=by
 have e1:(op == CmpOp.In)=false:=by cases op<;>first|rfl|exact absurd rfl h
 have e2:(op == CmpOp.NotIn)=false:=by cases op<;>first|rfl|exact absurd rfl h2
 cases b<;>simp [behindInMarks,e1,e2]
def Zhc(t:TE):TT:=λσ H Q=>t σ H λx H'=>∃k,x = .bl k/\Q k H'
theorem Yi{op:CmpOp}{r:R2}(ho:OpR X (compareOp op) r)(ha:PE X a ta)(hb:PE X b tb)(hm:behindInMarks op b=false):PT X (.Compare a [op] [b] pos) (Zhc (tOp r ta tb)):=by
 intro pins s σ H Q I h
 refine wpAny_isTrue_Compare1 (thn (ha pins s σ H _ I h) λv s1 ⟨x,H1,I1,r1,q1⟩=>thn (hb pins s1 σ H1 _ I1 q1) λu s2 ⟨y,H2,I2,r2,q2⟩=>
  thn (ho pins s2 σ H2 x y v u _ I2 r1 r2 q2) λc s3 ⟨z,H3,I3,r3,k,e,q3⟩ => ?_) hm
 subst e;cases r3;exact wpAny_truthy_bool ⟨H3,I3,q3⟩
def Zfg(r r':R2)(ta tb tc:TE):TE:=λσ H Q=>ta σ H λx H1=>tb σ H1 λy H2=>r x y H2 λz H3=>∃k,z = .bl k /\
 (if k=true then tc σ H3 λw' H4=>r' y w' H4 Q else Q (.bl false) H3)
theorem Zek {op op':CmpOp} {r r':R2} (ho:OpR X (compareOp op) r) (ho':OpR X (compareOp op') r') (ha:PE X a ta) (hb:PE X b tb) (hc:PE X c tc)
 (hm:lastMarks [op,op'] [b,c]=false:=by with_unfolding_all rfl):PE X (.Compare a [op,op'] [b,c] pos) (Zfg r r' ta tb tc):=by
 intro pins s σ H Q I h
 refine Compare_chain (thn (ha pins s σ H _ I h) λv s1 ⟨x,H1,I1,r1,q1⟩=>chain_link (thn (hb pins s1 σ H1 _ I1 q1) λu s2 ⟨y,H2,I2,r2,q2⟩=>
  thn (ho pins s2 σ H2 x y v u _ I2 r1 r2 q2) λd s3 ⟨z,H3,I3,r3,k,e,q3⟩ => ?_)) hm
 subst e;cases r3;refine wpAny_truthy_bool ?_;cases k with
 |false=>exact ite_ff ⟨.bl false,H3,I3,rfl,q3⟩
 |true=>exact ite_tt (chain_last (thn (hc pins s3 σ H3 _ I3 q3) λw' s4 ⟨z',H4,I4,r4,q4⟩=>ho' pins s4 σ H4 y z' u w' Q I4 r2 r4 q4))
theorem Uy:(sizeLine:Nat)<2 ^ 63:=by rw [sizeLine_eq];decide
theorem Zb6:OpR X (binaryOp .Add) (λx y H Q=>∃i j,x = .str i/\y = .str j/\i.length+j.length<=sizeLine/\Q (.str (i++j)) H):=by
 intro pins s σ H x y v u Q I rx ry h;obtain⟨i,j,rfl,rfl,hz,q⟩:=h;obtain⟨t,rfl⟩:=rx;obtain⟨t',rfl⟩:=ry;exact add_str (λt' tk=>⟨.str (i++j),H,I.tok _,⟨_,rfl⟩,q⟩) hz
theorem Xj{x:V}{us:List Value}(r:Vals [x] us):∃u,us=[u]/\RelV x u:=by
 cases r with
 |cons r1 r2=>cases r2;exact⟨_,rfl,r1⟩
theorem JF{x y:V}{us:List Value}(r:Vals [x,y] us):∃u w',us=[u,w']/\RelV x u/\RelV y w':=by
 cases r with
 |cons r1 r2=>
  cases r2 with
  |cons r3 r4=>cases r4;exact⟨_,_,rfl,r1,r3⟩
theorem ZaP(hc:X.calm=true):YG X (.builtin "min") (λxs H Q=>∃i j,xs=[.int i,.int j]/\Q (.int (if j<i then j else i)) H):=by
 intro pins s σ H xs us Q I r h;obtain⟨i,j,rfl,q⟩:=h;obtain⟨u,w',rfl,⟨t,rfl⟩,⟨t',rfl⟩⟩:=JF r;refine min_two_ints (I.ok.hd hc) λh' tk k=>⟨_,H,I.kept k,?_,q⟩
 by_cases hj:j<i
 · rw [if_pos hj,if_pos hj];exact⟨_,rfl⟩
 · rw [if_neg hj,if_neg hj];exact⟨_,rfl⟩
end
end L2
namespace L2
open PySem PySem.Spec PyProof.Rows
structure ObjM(h:Heap)(x dx C:Addr)(mA:Str->Option Value):Prop where
 obj:h.get? x=some (instObj C dx)
 ns:h.Ns1 dx mA
 ne:dx≠x
theorem ZdF{h:Heap}{dx:Addr}{mA:Str->Option Value}(n:h.Ns1 dx mA):∃od,h.get? dx=some od/\∀name,PySem.W.lookIn name od=some (mA name):=by
 obtain⟨o,es,ep,ho,hd,hk,_,hm⟩:=n;refine⟨o,ho,λname => ?_⟩;have e:=hm name;unfold nsFind findBy at e;rw [<-Array.find?_toList]at e;unfold PySem.W.lookIn;rw [hd];dsimp only
 split
 · rename_i y q
   rw [q]at e;exact congrArg some e
 · rename_i q
   rw [q]at e
   have a:es.toList.any (·.refKey)=false:=by
    rw [List.any_eq_false];intro y hy;obtain⟨z,t,hkey⟩:=hk y (Array.mem_toList_iff.mp hy);simp [DictEntry.refKey,hkey]
   have a':¬es.toList.any (·.refKey)=true:=by rw [a];exact Bool.false_ne_true
   rw [if_neg a'];exact congrArg some e
theorem ObjM.look{h:Heap}{x dx C:Addr}{mA:Str->Option Value}(I:ObjM h x dx C mA):∃od,PySem.W.InstAt h x (instObj C dx) C (some od)/\∀name,PySem.W.lookIn name od=some (mA name):=
 let⟨od,ho,hl⟩:=ZdF I.ns
 ⟨od,⟨I.obj,rfl,rfl,ho⟩,hl⟩
section
variable{prog:Program}{w:World}{A:Around}{E:Value->Shared->Prop}{s:Shared}{K:PySem.W.Frag}{x dx C f:Addr}{mA:Str->Option Value}{name:Str}{v:Value}
theorem ZfX {expr:Bool} {Q:Value->Shared->Prop} (X:K.In s.heap) (I:ObjM s.heap x dx C mA) (hg:PySem.W.plainGet K C name=true) (hh:PySem.W.hasDictIn K C=true)
 (ha:PySem.W.findIn K (.ref C) name=some none) (hv:mA name=some v) (hv':PySem.W.handedIn v=true) (h:Q v { s with toks:=s.toks+1 }) :
 wpAny (model prog w) A (getAttr (.ref x) name expr) Q E s:=by
 obtain⟨od,J,hl⟩:=I.look;exact PySem.W.get_value X J (PySem.W.plainGet_of hg).1 (PySem.W.findObj_own hh ha rfl (by rw [hl,hv])) hv' h
theorem Zel {pl:Sem Bool} {Q:Value×List Value->Shared->Prop} (X:K.In s.heap) (I:ObjM s.heap x dx C mA) (hg:PySem.W.plainGet K C name=true)
 (hf:PySem.W.findIn K (.ref C) name=some (some (.ref f))) (ht:isFn K (.ref f)=true) (hv:mA name=none) (h:Q (.ref f,[.ref x]) s) :
 wpAny (model prog w) A (getMethod (.ref x) name pl) Q E s:=by
 obtain⟨od,J,hl⟩:=I.look;exact PySem.W.method_fn X J (PySem.W.plainGet_of hg).1 (PySem.W.plainGet_of hg).2 hf (beq_iff_eq.mp ht) (by show(PySem.W.lookIn name od).map (·.isSome)=some false;rw [hl,hv];rfl) h
theorem ZfY {ns:List Str} {Q:Unit->Shared->Prop} (X:K.In s.heap) (I:ObjM s.heap x dx C mA)
 (hs:PySem.W.findIn K (.ref C) "__setattr__" = some (some (.builtin "object.__setattr__"))) (hp:PySem.W.plainOver K C=true) (ht:PySem.W.takerIn K C name=some none) (hh:PySem.W.hasDictIn K C=true)
 (hw:PySem.Within mA ns) (hsz:ns.length<=sizeLine)
 (h:∀h',ObjM h' x dx C (λy=>if y=name then some v else mA y)->Heap.SameBut dx s.heap h'->Q () { s with heap:=h',toks:=s.toks+2 }) :
 wpAny (model prog w) A (setAttr (.ref x) name v) Q E s:=by
 obtain⟨od,J,hl⟩:=I.look;refine PySem.W.set_plain X J hs (PySem.W.osa_open (s:={ s with toks:=s.toks+1 }) (r:=none) X J hp ht λb => ?_);obtain⟨cd,hc,hd'⟩:=PySem.W.any_some hh;have hx:s.heap.get? x=some ⟨.ref C,some dx,.plain,#[]⟩:=I.obj;refine wpAny_bind (wpAny_pure (wpAny_bind (wpAny_bind (wpAny_loadPart hx (wpAny_bind (PySem.W.Looks.here (s:={ s with toks:=s.toks+1 }) (PySem.W.looks_clsIn X hc) ?_))))))
 rw [hd'];refine wpAny_pure (a:=some dx) (wpAny_bind (wpAny_pure (wpAny_bind ?_)));refine wpAny_nsSet1 (s:={ s with toks:=s.toks+1 }) I.ns λh' hn2 hs2 => ?_
 obtain⟨oD,esD,epD,hoD,hdD,hcD⟩:=hn2.count (PySem.Within.cons name v hw);refine wpAny_bind (wpAny_lookBehind hoD (by rw [hdD];exact pastItsLine_dict (Nat.le_trans hcD (by rw [List.length_cons];omega))) ?_);exact wpAny_pure (h _ ⟨(hs2.2 _ (Ne.symm I.ne)).trans I.obj,hn2,I.ne⟩ hs2)
theorem Zem {R:Result->Shared->Prop} {vs:List Value} {kw:List (Str×Value)} (X:K.In s.heap) (hm:PySem.W.makesIn K C=true)
 (hi:PySem.W.findIn K (.ref C) "__init__" = some (some (.ref f))) (hf:PySem.W.typeIn K (.ref f)=some (.type "function"))
 (h:codeAny (model prog w) (A.under (.builtin "type.__call__" ⟨.ref C::vs,kw⟩)) (.call (.ref f) ⟨.ref (s.heap.objs.size+1)::vs,kw⟩) (PySem.W.InitBack (s.heap.objs.size+1) R)
   { s with heap:=(s.heap.push emptyDict).push (instObj C s.heap.objs.size) }) :
 codeAny (model prog w) A (.call (.ref C) ⟨vs,kw⟩) R s:=by
 obtain⟨hh,g,d,t,os⟩:=s;exact PySem.W.make_core (PySem.W.makes_of X hm) (PySem.W.looks_findIn X hi) (λself=>PySem.W.bind_fn X self hf) (.inl rfl) h
end
def YA(f:Str)(v:V):List (Str×V)->List (Str×V)
 | []=>[(f,v)]
 |(g,x)::r=>if g=f then(g,v)::r else(g,x)::YA f v r
theorem Zam(f g:Str)(v:V):∀fs:List (Str×V),(YA f v fs).lookup g=if g=f then some v else fs.lookup g
 | []=>by
  show List.lookup g [(f,v)]=_
  by_cases h:g=f
  · have hb:(g == f)=true:=beq_iff_eq.mpr h
    simp only [List.lookup,hb,if_pos h]
  · have hb:(g == f)=false:=beq_eq_false_iff_ne.mpr h
    simp only [List.lookup,hb,if_neg h]
 |(k,x)::r=>by
  have ih:=Zam f g v r;rw [show YA f v ((k,x)::r)=(if k=f then(k,v)::r else(k,x)::YA f v r)from rfl]
  by_cases hk:k=f
  · rw [if_pos hk]
    by_cases h:g=k
    · have hb:(g == k)=true:=beq_iff_eq.mpr h
      simp only [List.lookup,hb,if_pos (h.trans hk)]
    · have hb:(g == k)=false:=beq_eq_false_iff_ne.mpr h
      simp only [List.lookup,hb,if_neg (λe:g=f=>h (e.trans hk.symm))]
  · rw [if_neg hk]
    by_cases h:g=k
    · have hb:(g == k)=true:=beq_iff_eq.mpr h
      simp only [List.lookup,hb,if_neg (λe:g=f=>hk (h.symm.trans e))]
    · have hb:(g == k)=false:=beq_eq_false_iff_ne.mpr h
      simp only [List.lookup,hb];exact ih
theorem JG(f:Str)(v:V):∀fs:List (Str×V),f∈(YA f v fs).map (·.1)/\∀g,g∈fs.map (·.1)->g∈(YA f v fs).map (·.1)
 | []=>⟨by simp [YA],λg h=>by simp at h⟩
 |(k,x)::r=>by
  obtain⟨i1,i2⟩:=JG f v r;rw [show YA f v ((k,x)::r)=(if k=f then(k,v)::r else(k,x)::YA f v r)from rfl]
  by_cases hk:k=f
  · rw [if_pos hk]
    subst hk;exact⟨by simp,λg h=>by simpa using h⟩
  · rw [if_neg hk]
    refine⟨?_,λg h => ?_⟩
    · rw [List.map_cons]
      exact List.mem_cons_of_mem _ i1
    · rw [List.map_cons]at h ⊢
      rcases List.mem_cons.mp h with e|e
      · exact List.mem_cons.mpr (.inl e)
      · exact List.mem_cons_of_mem _ (i2 g e)
theorem Zan(f:Str)(v:V):∀fs:List (Str×V),(YA f v fs).length<=fs.length+1
 | []=>by simp [YA]
 |(k,x)::r=>by
  have ih:=Zan f v r;rw [show YA f v ((k,x)::r)=(if k=f then(k,v)::r else(k,x)::YA f v r)from rfl]
  by_cases hk:k=f
  · rw [if_pos hk,List.length_cons,List.length_cons];omega
  · rw [if_neg hk,List.length_cons,List.length_cons];omega
theorem RelO.some_of{v:V}{o:Option Value}(r:RelO (some v) o):∃u,o=some u/\RelV v u:=by
 cases o with
 |none=>exact(show False from r).elim
 |some u=>exact⟨u,rfl,r⟩
theorem RelO.none_of{o:Option Value}(r:RelO none o):o=none:=by
 cases o with
 |none=>rfl
 |some u=>exact(show False from r).elim
theorem ZdG{v:V}{u:Value}(r:RelV v u):PySem.W.handedIn u=true:=by
 cases v with
 |non=>cases(show u=Value.none from r);rfl
 |bl b=>cases(show u=Value.bool b from r);rfl
 |int i=>obtain⟨t,e⟩:=(show ∃t,u=Value.int i t from r);cases e;rfl
 |str x=>obtain⟨t,e⟩:=(show ∃t,u=Value.str x t from r);cases e;rfl
 |byt b=>obtain⟨t,e⟩:=(show ∃t,u=Value.bytes b t from r);cases e;rfl
 |flt b=>obtain⟨t,e⟩:=(show ∃t,u=Value.float b t from r);cases e;rfl
 |ref a=>cases(show u=Value.ref a from r);rfl
 |ty n=>cases(show u=Value.type n from r);rfl
section
variable{P:Program}{w:World}{H H':Hp}{h h':Heap}{a C dx:Addr}{fs fs':List (Str×V)}
theorem QL(hok:HOk P w H h)(e:H a=some (.ins C dx fs)):∃mA,ObjM h a dx C mA/\(∀f,RelO (fs.lookup f) (mA f))/\PySem.Within mA (fs.map (·.1))/\fs.length<=1000/\H dx=some (.own a):=by
 obtain⟨d,z,ne,ob,mA,n,r,q⟩:=(show ObjOk P w H h a (.ins C dx fs)from hok a _ e)
 exact⟨mA,⟨ob,n,ne⟩,r,q,z,d⟩
end
structure Cls(K:PySem.W.Frag)(C:Addr):Prop where
 pg:PySem.W.plainGet K C Str.empty=true
 hd:PySem.W.hasDictIn K C=true
 po:PySem.W.plainOver K C=true
 sa:PySem.W.findIn K (.ref C) "__setattr__" = some (some (.builtin "object.__setattr__"))
theorem Cls.get{K:PySem.W.Frag}{C:Addr}(c:Cls K C)(f:Str):PySem.W.plainGet K C f=true:=c.pg
def NoAttr(K:PySem.W.Frag)(C:Addr)(f:Str):Prop:=PySem.W.findIn K (.ref C) f=some none
theorem NoAttr.taker{K:PySem.W.Frag}{C:Addr}{f:Str}(n:NoAttr K C f):PySem.W.takerIn K C f=some none:=by
 unfold PySem.W.takerIn;rw [show PySem.W.findIn K (.ref C) f=some none from n];rfl
structure Con(K:PySem.W.Frag)(C:Addr)(f:Str)(v:V)(u:Value):Prop where
 at_:PySem.W.findIn K (.ref C) f=some (some u)
 rel:RelV v u
 get:PySem.W.specialIn K u "__get__" = some none
 cp:PySem.W.copiedNames.contains f=false
structure Meth(K:PySem.W.Frag)(C:Addr)(m:Str)(f:Addr):Prop where
 at_:PySem.W.findIn K (.ref C) m=some (some (.ref f))
 fn:isFn K (.ref f)=true
 kp:keepIn K (.ref f)=true
section
variable{X:Cx}{pins:List (Addr×Obj)}{σ:St}{H:Hp}{s:Shared}{a C dx:Addr}{fs:List (Str×V)}{f:Str}{v:V}{A:Around}{E:Value->Shared->Prop}
theorem Zb7 {b:Bool} {Q:Value->Shared->Prop} (I:Inv X pins σ H s) (e:H a=some (.ins C dx fs)) (c:Cls X.K C) (n:NoAttr X.K C f) (l:fs.lookup f=some v)
 (h:∀u s',Inv X pins σ H s'->RelV v u->Q u s'):wpAny (model X.prog X.w) A (getAttr (.ref a) f b) Q E s:=by
 obtain⟨mA,O,r,_,_,_⟩:=QL I.hok e;obtain⟨u,hu,ru⟩:=RelO.some_of (v:=v) (o:=mA f) (by rw [<-l];exact r f);exact ZfX I.kIn O (c.get f) c.hd n hu (ZdG ru) (h u _ (I.tok _) ru)
theorem Zb8 {m:Str} {g:Addr} {pl:Sem Bool} {Q:Value×List Value->Shared->Prop} (I:Inv X pins σ H s) (e:H a=some (.ins C dx fs)) (c:Cls X.K C) (k:Meth X.K C m g) (l:fs.lookup m=none)
 (h:Q (.ref g,[.ref a]) s):wpAny (model X.prog X.w) A (getMethod (.ref a) m pl) Q E s:=by
 obtain⟨mA,O,r,_,_,_⟩:=QL I.hok e;have hn:mA m=none:=RelO.none_of (by rw [<-l];exact r m);exact Zel I.kIn O (c.get m) k.at_ k.fn hn h
theorem Zb9 {y:V} {u:Value} {Q:Unit->Shared->Prop} (I:Inv X pins σ H s) (e:H a=some (.ins C dx fs)) (c:Cls X.K C) (n:NoAttr X.K C f) (hl:fs.length<1000) (ry:RelV y u)
 (h:∀s',Inv X pins σ (upd H a (.ins C dx (YA f y fs))) s'->Q () s'):wpAny (model X.prog X.w) A (setAttr (.ref a) f u) Q E s:=by
 obtain⟨mA,O,r,wi,_,ho⟩:=QL I.hok e;have hz:(fs.map (·.1)).length<=sizeLine:=by rw [List.length_map,sizeLine_eq];omega
 refine ZfY I.kIn O c.sa c.po n.taker c.hd wi hz λh' O' sb=>h _ ?_
 have hd:∃o,h'.get? dx=some o:=let⟨o,_,_,e',_⟩:=O'.ns;⟨o,e'⟩
 refine I.write (x:=a) (e:=dx) (by rw [e];exact True.intro) (.inr ho) (λb q hb z=>(sb.2 b hb).trans z) hd ?_;refine⟨by rw [Zs O.ne];exact ho,?_,O.ne,O'.obj,_,O'.ns,λg => ?_,λg hg => ?_⟩
 · have:=Zan f y fs;omega
 · show RelO ((YA f y fs).lookup g) (if g=f then some u else mA g)
   rw [Zam]
   by_cases q:g=f
   · rw [if_pos q,if_pos q];exact ry
   · rw [if_neg q,if_neg q];exact r g
 · by_cases q:g=f
   · rw [q];exact(JG f y fs).1
   · refine(JG f y fs).2 g (wi g λz=>hg ?_)
     show(if g=f then some u else mA g)=none;rw [if_neg q];exact z
theorem Inv.made(I:Inv X pins σ H s):Inv X pins σ (upd (upd H s.heap.objs.size (.own (s.heap.objs.size+1))) (s.heap.objs.size+1) (.ins C s.heap.objs.size []))
 { s with heap:=(s.heap.push emptyDict).push (instObj C s.heap.objs.size) }:=by
 have e1:(s.heap.push emptyDict).get? s.heap.objs.size=some emptyDict:=Heap.get?_push_size s.heap rfl
 have e2:((s.heap.push emptyDict).push (instObj C s.heap.objs.size)).get? (s.heap.objs.size+1)=some (instObj C s.heap.objs.size):=by
  have:=Heap.get?_push_size (s.heap.push emptyDict) (o:=instObj C s.heap.objs.size) rfl
  rwa [Heap.size_push]at this
 have e3:(s.heap.push emptyDict).Ns s.heap.objs.size (λ_=>none):=⟨emptyDict,#[],_,e1,rfl,(λe he=>absurd he (by simp)),λ_=>rfl⟩
 have I1:=I.laid (a:=s.heap.objs.size) (o:=.own (s.heap.objs.size+1)) (h':=s.heap.push emptyDict) (t':=s.toks) (λb u q=>Heap.get?_push_of_some _ q) (Nat.le_refl _) ⟨_,e1⟩;refine I1.laid (a:=s.heap.objs.size+1) (o:=.ins C s.heap.objs.size []) (t':=s.toks) (λb u q=>Heap.get?_push_of_some _ q) (Nat.le_of_eq (Heap.size_push _ _)) ?_;have ne:s.heap.objs.size≠s.heap.objs.size+1:=Nat.ne_of_lt (Nat.lt_succ_self _)
 refine⟨by rw [Zs ne,ZL],Nat.zero_le _,ne,e2,λ_=>none,(Heap.Ns1.of_empty e3).at λo q=>Heap.get?_push_of_some _ q,λ_=>True.intro,λy hy=>absurd rfl hy⟩
theorem ZfZ {prog:Program} {w:World} {env:Env} {e:Expr} {f:Str} {pos:Pos} {s:Shared} {Q:Value->Shared->Prop} (hb:attributeBase e f env (eval e env)=eval e env)
 (h:wpAny (model prog w) A (eval e env) (λo s₁=>wpAny (model prog w) A (getAttr o f true) Q E s₁) E s):wpAny (model prog w) A (eval (.Attribute e f pos) env) Q E s:=
 Attribute_any_ h (by rw [arm_eval_Attribute,hb])
end
def JH(K:PySem.W.Frag)(ta:TE)(f:Str):TE:=λσ H Q=>ta σ H λx H1=>∃a C dx fs v,x = .ref a/\H1 a=some (.ins C dx fs)/\Cls K C/\NoAttr K C f/\fs.lookup f=some v/\Q v H1
def Zkm(K:PySem.W.Frag)(ta tv:TE)(f:Str):TS:=λD σ H=>tv σ H λy H1=>ta σ H1 λx H2=>∃a C dx fs,x = .ref a/\H2 a=some (.ins C dx fs)/\Cls K C/\NoAttr K C f/\fs.length<1000 /\
 D.nx σ (upd H2 a (.ins C dx (YA f y fs)))
section
variable{X:Cx}{o e value:Expr}{f:Str}{pos pos' tpos:Pos}{ta tv:TE}
theorem ZhX(he:PE X e ta)(hb:attributeBase e f X.env (eval e X.env)=eval e X.env):PE X (.Attribute e f pos) (JH X.K ta f):=by
 intro pins s σ H Q I h;refine ZfZ hb (thn (he pins s σ H _ I h) λu s1 ⟨x,H1,I1,rx,a,C,dx,fs,v,ex,ea,c,n,l,q⟩ => ?_);subst ex;obtain rfl:u=Value.ref a:=rx;exact Zb7 I1 ea c n l λu' s2 I2 ru=>⟨v,H1,I2,ru,q⟩
theorem U0(ha:PE X o ta)(hv:PE X value tv)(hs:swapsWith value (some (.Attribute o f pos')) pos.line X.env=pure false):PS X (.Assign [.Attribute o f pos'] value pos) (Zkm X.K ta tv f):=by
 intro pins s σ H D I h;refine plainObj_wpAny_Assign_Attribute (thn (hv pins s σ H _ I h) λu s1 ⟨y,H1,I1,ry,q⟩=>thn (ha pins s1 σ H1 _ I1 q) λov s2 ⟨x,H2,I2,rx,a,C,dx,fs,ex,ea,c,n,l,q2⟩ => ?_) hs;subst ex;obtain rfl:ov=Value.ref a:=rx;exact Zb9 I2 ea c n l ry λs3 I3=>⟨σ,_,I3,q2⟩
end
section
variable{X:Cx}{pins:List (Addr×Obj)}{σ:St}{H:Hp}{s:Shared}{A:Around}{E:Value->Shared->Prop}{Q:Value->Shared->Prop}{c:Value}{b:Bool}
inductive TyOf(K:PySem.W.Frag)(H:Hp):V->Value->Prop where
 |non:TyOf K H .non (.type "NoneType")
 |bl (x:Bool):TyOf K H (.bl x) (.type "bool")
 |int (i:Int):TyOf K H (.int i) (.type "int")
 |str (x:Str):TyOf K H (.str x) (.type "str")
 |flt (x:UInt64):TyOf K H (.flt x) (.type "float")
 |lst {a:Addr} {xs:List V} (e:H a=some (.lst xs)):TyOf K H (.ref a) (.type "list")
 |frz {a:Addr} {o:Obj} {xs:List V} (e:H a=some (.frz o (.lst xs))):TyOf K H (.ref a) (.type "list")
 |tup {a:Addr} {xs:List V} (e:H a=some (.tup xs)):TyOf K H (.ref a) (.type "tuple")
 |dK {a:Addr} {kvs:List (Key×V)} (e:H a=some (.dK kvs)):TyOf K H (.ref a) (.type "dict")
 |dT {a:Addr} {kvs:List (List Key×V)} (e:H a=some (.dT kvs)):TyOf K H (.ref a) (.type "dict")
 |ins {a C dx:Addr} {fs:List (Str×V)} (e:H a=some (.ins C dx fs)) (cl:Cls K C) (ha:PySem.W.findIn K (.ref C) "__class__" = some (some (.builtin "object.__class__")))
  (hn:PySem.W.specialIn K (.builtin "object.__class__") "__get__" = some (some (.builtin "getset_descriptor.__get__"))) (htk:PySem.W.takesIn K (.builtin "object.__class__")=some true)
  (hm:PySem.W.mroIn K C (.type "object")=some true):TyOf K H (.ref a) (.ref C)
theorem ZdH{x:V}{u t:Value}(I:Inv X pins σ H s)(rx:RelV x u)(ty:TyOf X.K H x t)(e:kitOne X.K t c=some b)(h:∀tk,Q (.bool b) { s with toks:=tk }) :
 wpAny (model X.prog X.w) A (call (.builtin "isinstance") [u,c]) Q E s:=by
 cases ty with
 |non=>cases(show u=Value.none from rx);exact PySem.W.kia_one PySem.W.kitx_none I.kIn True.intro e (λz=>nomatch z) h
 |bl y=>cases(show u=Value.bool y from rx);exact PySem.W.kia_one PySem.W.kitx_bool I.kIn True.intro e (λz=>nomatch z) h
 |int i=>obtain⟨t,q⟩:=(show ∃t,u=Value.int i t from rx);cases q;exact PySem.W.kia_one PySem.W.kitx_int I.kIn True.intro e (λz=>nomatch z) h
 |str y=>obtain⟨t,q⟩:=(show ∃t,u=Value.str y t from rx);cases q;exact PySem.W.kia_one PySem.W.kitx_str I.kIn True.intro e (λz=>nomatch z) h
 |flt y=>obtain⟨t,q⟩:=(show ∃t,u=Value.float y t from rx);cases q;exact PySem.W.kia_one PySem.W.kitx_float I.kIn True.intro e (λz=>nomatch z) h
 | @lst a xs ea=>
  cases(show u=Value.ref a from rx);obtain⟨_,_,n,_,h1⟩:=(show ObjOk X.prog X.w H s.heap a (.lst xs)from I.hok a _ ea)
  exact PySem.W.kia_one PySem.W.kitx_list I.kIn ⟨_,h1,rfl⟩ e (λz=>nomatch z) h
 | @frz a ob xs ea=>
  cases(show u=Value.ref a from rx);obtain⟨_,_,_,n,_,h1⟩:=(show ObjOk X.prog X.w H s.heap a (.frz ob (.lst xs))from I.hok a _ ea)
  exact PySem.W.kia_one PySem.W.kitx_list I.kIn ⟨_,h1,rfl⟩ e (λz=>nomatch z) h
 | @tup a xs ea=>
  cases(show u=Value.ref a from rx);obtain⟨_,_,_,p⟩:=(show ObjOk X.prog X.w H s.heap a (.tup xs)from I.hok a _ ea)
  obtain⟨o,h1,h2,_⟩:=p;exact PySem.W.kia_one PySem.W.kitx_tuple I.kIn ⟨o,h1,h2⟩ e (λz=>nomatch z) h
 | @dK a kvs ea=>
  cases(show u=Value.ref a from rx);obtain⟨_,_,vs,_,p⟩:=(show ObjOk X.prog X.w H s.heap a (.dK kvs)from I.hok a _ ea)
  obtain⟨o,es,ep,h1,h2,_⟩:=p;exact PySem.W.kia_one PySem.W.kitx_dict I.kIn ⟨o,h1,h2.1⟩ e (λz=>nomatch z) h
 | @dT a kvs ea=>
  cases(show u=Value.ref a from rx);obtain⟨_,_,xs,_,o,es,ep,h1,h2,_⟩:=(show ObjOk X.prog X.w H s.heap a (.dT kvs)from I.hok a _ ea)
  exact PySem.W.kia_one PySem.W.kitx_dict I.kIn ⟨o,h1,h2.1⟩ e (λz=>nomatch z) h
 | @ins a C dx fs ea cl ha hn htk hm=>
  cases(show u=Value.ref a from rx);obtain⟨mA,O,_⟩:=QL I.hok ea;obtain⟨od,J,_⟩:=O.look;exact PySem.W.kia_one (PySem.W.kitx_own (cl.get _) cl.hd ha hn htk hm) I.kIn J e (λz=>nomatch z) h
end
end L2
namespace L2
open PySem PySem.Spec PyProof.Rows
structure Room(k:Nat)(A:Around):Prop where
 hd:A.handled=none
 dp:A.depth+3*k+5<recursionLimit
 un:A.units+16*k+200<cLine
theorem Room.mono{j k:Nat}{A:Around}(r:Room k A)(h:j<=k):Room j A:=⟨r.hd,by have:=r.dp;omega,by have:=r.un;omega⟩
theorem Room.deeper{k:Nat}{A:Around}(r:Room (k+1) A)(env:Env):Room k (A.deeper env):=
 ⟨r.hd,by have:=r.dp;show A.depth+1+3*k+5<_;omega,by have:=r.un;show A.units+3+16*k+200<_;omega⟩
theorem Zca{A:Around}{C:Addr}{us:List Value}{kw:List (Str×Value)}:(A.under (.builtin "type.__call__" ⟨.ref C::us,kw⟩)).depth=A.depth+1:=by
 first|rfl|simp [Around.under,Code.weight,Code.isCreation,Code.isGuard,Code.isCaller,Code.frames,Code.isFrame,guardIds]
theorem Zcb{A:Around}{C:Addr}{us:List Value}{kw:List (Str×Value)}:(A.under (.builtin "type.__call__" ⟨.ref C::us,kw⟩)).units=A.units+1:=by
 first|rfl|simp [Around.under,Code.cUnits,Code.frames,Code.isFrame]
theorem Room.make{k:Nat}{A:Around}(r:Room (k+1) A)(C:Addr)(us:List Value)(kw:List (Str×Value)):Room k (A.under (.builtin "type.__call__" ⟨.ref C::us,kw⟩)):=
 ⟨r.hd,by have:=r.dp;rw [Zca];omega,by have:=r.un;rw [Zcb];omega⟩
theorem Room.depth{k:Nat}{A:Around}(r:Room k A):A.depth<recursionLimit:=by have:=r.dp;omega
theorem Room.units{k:Nat}{A:Around}(r:Room k A):A.units+64<cLine:=by have:=r.un;omega
def tNil:TA:=λ_ H Q=>Q [] H
def VN(ta:TE)(tr:TA):TA:=λσ H Q=>ta σ H λx H1=>tr σ H1 λxs H2=>Q (x::xs) H2
section
variable{X:Cx}{e:Expr}{es:List Expr}{te:TE}{t:TA}{pos:Pos}
theorem Zj:PA X [] tNil:=λ_ _ _ _ H Q I h=>Calls.spliced_nil ⟨[],H,I,.nil,h⟩
theorem Ze(ha:PE X e te)(hr:PA X es t)(hs:starEach (e::es) X.env=(false,eval e X.env)::starEach es X.env:=by rfl):PA X (e::es) (VN te t):=by
 intro pos pins s σ H Q I h;rw [hs];show wpAny _ _ (spliced ((false,eval e X.env)::backTo pos (starEach es X.env))) _ _ s;refine Calls.spliced_cons (thn (ha pins s σ H _ I h) λu s1 ⟨x,H1,I1,r1,q1⟩ => ?_);exact thn (hr pos pins s1 σ H1 _ I1 q1) λus s2 ⟨xs,H2,I2,r2,q2⟩=>⟨x::xs,H2,I2,.cons r1 r2,q2⟩
def Zkn(t:TA):TE:=λσ H Q=>t σ H λxs H1=>xs.length<=sizeLine/\∀p,H1 p=none->Q (.ref p) (upd H1 p (.tup xs))
def Zko(t:TA):TE:=λσ H Q=>t σ H λxs H1=>xs.length<=sizeLine/\∀p,H1 p=none->Q (.ref p) (upd H1 p (.lst xs))
theorem Vg{x1}(h:PA X es t):PE X (.Tuple es x1 pos) (Zkn t):=by
 intro pins s σ H Q I hq;refine wpAny_Tuple_spliced (thn (h pos pins s σ H _ I hq) λus s1 ⟨xs,H1,I1,r,z,q⟩=>⟨by rw [<-r.length];exact z,?_⟩);have hf:H1 s1.heap.objs.size=none:=I1.hok.fresh (Nat.le_refl _);refine⟨.ref s1.heap.objs.size,upd H1 s1.heap.objs.size (.tup xs),I1.laid (t':=s1.toks) (λb u e=>Heap.get?_push_of_some _ e) (Nat.le_refl _) ?_,rfl,q _ hf⟩;exact⟨z,us,r,⟨_,Heap.get?_push_size _ rfl,rfl,⟨_,rfl⟩,rfl⟩⟩
theorem Yv(h:PA X es t):PE X (.List es pos) (Zko t):=by
 intro pins s σ H Q I hq;refine wpAny_List_spliced (thn (h pos pins s σ H _ I hq) λus s1 ⟨xs,H1,I1,r,z,q⟩=>⟨by rw [<-r.length];exact z,?_⟩);have hf:H1 s1.heap.objs.size=none:=I1.hok.fresh (Nat.le_refl _);refine⟨.ref s1.heap.objs.size,upd H1 s1.heap.objs.size (.lst xs),I1.laid (t':=s1.toks) (λb u e=>Heap.get?_push_of_some _ e) (Nat.le_refl _) ?_,rfl,q _ hf⟩;exact⟨z,us,0,r,Heap.get?_push_size _ rfl⟩
end
abbrev Sp:=List V->Hp->VK->XK->Prop
abbrev CXT:=List Env->Hp->Shared->XK->Value->Shared->Prop
structure Env0(P:Program)(w:World)(K:PySem.W.Frag)(mg:Str->Option Value)(base:Heap)(A:Around)(outer:List Env)(s:Shared)(H:Hp):Prop where
 frames:A.frames=some outer
 mod:Mod K mg base
 bs:∀b o,base.get? b=some o->s.heap.get? b=some o/\H b=none
 bsz:base.objs.size<=s.heap.objs.size
 funs:s.heap.FunFrames base outer
 frf:∀b∈frs outer,H b=none
 hok:HOk P w H s.heap
 bare:AllBare s.gens
def CE(outer:List Env)(P:Program)(w:World)(H:Hp)(s:Shared)(Q:VK)(u:Value)(s':Shared):Prop:=
 ∃v H',s'.os=s.os/\AllBare s'.gens/\Un (frs outer) [] H H' s.heap s'.heap/\HOk P w H' s'.heap/\RelV v u/\Q v H'
def CR(CX:CXT)(outer:List Env)(P:Program)(w:World)(H:Hp)(s:Shared)(Q:VK)(E:XK)(r:Result)(s':Shared):Prop:=
 match r with
 | .ok (.ret u)=>CE outer P w H s Q u s'
 | .ok _=>False
 | .error e=>CX outer H s E e s'
structure FnOk(P:Program)(w:World)(K:PySem.W.Frag)(mg:Str->Option Value)(base:Heap)(CX:CXT)(k:Nat)(f:Addr)(fd:FuncData)(ps:List Str)(sp:Sp):Prop where
 len:∀vs H Q E,sp vs H Q E->vs.length=ps.length
 run:∀(A:Around)(outer:List Env)(s:Shared)(H:Hp)(args:Args)(us:List Value)(vs:List V)(Q:VK)(E:XK),Room k A->Env0 P w K mg base A outer s H->BindsTo s fd args (ps.zip us)->Vals vs us->sp vs H Q E ->
  codeAny (model P w) A (.call (.ref f) args) (CR CX outer P w H s Q E) s
theorem FnOk.mono{P:Program}{w:World}{K:PySem.W.Frag}{mg:Str->Option Value}{base:Heap}{CX:CXT}{j k:Nat}{f:Addr}{fd:FuncData}{ps:List Str}{sp:Sp}(F:FnOk P w K mg base CX j f fd ps sp)(h:j<=k) :
 FnOk P w K mg base CX k f fd ps sp:=⟨F.len,λA outer s H args us vs Q E hr=>F.run A outer s H args us vs Q E (hr.mono h)⟩
theorem FnOk.imp {P:Program} {w:World} {K:PySem.W.Frag} {mg:Str->Option Value} {base:Heap} {CX:CXT} {k:Nat} {f:Addr} {fd:FuncData} {ps:List Str} {sp sp':Sp} (F:FnOk P w K mg base CX k f fd ps sp)
 (h:∀vs H Q E,sp' vs H Q E->sp vs H Q E):FnOk P w K mg base CX k f fd ps sp':=
 ⟨λvs H Q E q=>F.len vs H Q E (h _ _ _ _ q),λA outer s H args us vs Q E hr he hb hv hs=>F.run A outer s H args us vs Q E hr he hb hv (h _ _ _ _ hs)⟩
theorem Env0.make{P:Program}{w:World}{K:PySem.W.Frag}{mg:Str->Option Value}{base:Heap}{A:Around}{outer:List Env}{s:Shared}{H:Hp}(e:Env0 P w K mg base A outer s H)(C:Addr)(us:List Value)(kw:List (Str×Value)) :
 Env0 P w K mg base (A.under (.builtin "type.__call__" ⟨.ref C::us,kw⟩)) outer s H:=⟨by first|exact e.frames|(simpa [Around.under,Code.envs,Code.isFrame,pushEnvs]using e.frames),e.mod,e.bs,e.bsz,e.funs,e.frf,e.hok,e.bare⟩
section
variable{X:Cx}{pins:List (Addr×Obj)}{σ:St}{H:Hp}{s s':Shared}
theorem Inv.env0(I:Inv X pins σ H s):Env0 X.prog X.w X.K X.mg X.base X.A X.stack s H:=
 ⟨I.ok.frames,I.ok.mod,I.bs,Nat.le_trans I.ok.bsz I.sz,I.stack,I.stkFree,I.hok,I.bare⟩
theorem Inv.after{Q:VK}{u:Value}(I:Inv X pins σ H s)(h:CE X.stack X.prog X.w H s Q u s'):EP X pins σ Q u s':=by
 obtain⟨v,H',os,bare,un,hok,r,q⟩:=h;obtain⟨hh,g,d,t,os'⟩:=s';obtain rfl:os'=s.os:=os;exact⟨v,H',I.call (h':=hh) (g':=g) (d':=d) (t':=t) (ch:=[]) un hok bare (λb z=>absurd z (by simp)),r,q⟩
end
def Zhd(sp:Sp)(dvs:List V)(E:XK)(t:TA):TE:=λσ H Q=>t σ H λvs H1=>sp (vs++dvs) H1 Q E
def Zhe(C:Addr)(sp:Sp)(dvs:List V)(E:XK)(t:TA):TE:=λσ H Q=>t σ H λvs H1=>∀x dx,H1 x=none->H1 dx=none->dx≠x ->
 sp (.ref x::(vs++dvs)) (upd (upd H1 dx (.own x)) x (.ins C dx [])) (λv H2=>v = .non/\Q (.ref x) H2) E
def Binds(K:PySem.W.Frag)(fd:FuncData)(ps:List Str)(ds:List Value):Prop:=
 ∀(s:Shared)(us:List Value),K.In s.heap->(us++ds).length=ps.length->BindsTo s fd ⟨us,[]⟩ (ps.zip (us++ds))
theorem Binds.all{K:PySem.W.Frag}{fd:FuncData}{ps:List Str}(h:∀us:List Value,us.length=ps.length->bindArgs fd ⟨us,[]⟩=pure (ps.zip us)):Binds K fd ps []:=λs us _ hl=>by
 rw [List.append_nil]at hl ⊢;exact .of_eq (h us hl)
def U1(CX:CXT)(X:Cx)(E:XK):Prop:=∀(pins:List (Addr×Obj))(σ:St)(H:Hp)(s:Shared)(e:Value)(s':Shared),Inv X pins σ H s->CX X.stack H s E e s'->X.xe e s'
section
variable{X:Cx}{CX:CXT}{k:Nat}{f C:Addr}{fd:FuncData}{ps:List Str}{sp:Sp}{dvs:List V}{ds:List Value}{E:XK}{x m:Str}{p pos apos:Pos}{e o:Expr}{es:List Expr}{ta:TE}{t:TA}
theorem Zfh {pins:List (Addr×Obj)} {σ:St} {H:Hp} {s:Shared} {Q:VK} {us:List Value} {vs:List V} (F:FnOk X.prog X.w X.K X.mg X.base CX k f fd ps sp) (hr:Room k X.A) (hb:Binds X.K fd ps ds) (hd:Vals dvs ds) (hx:U1 CX X E)
 (I:Inv X pins σ H s) (r:Vals vs us) (h:sp (vs++dvs) H Q E):wpAny (model X.prog X.w) X.A (call (.ref f) us) (EP X pins σ Q) X.xe s:=by
 have r2:Vals (vs++dvs) (us++ds):=r.append hd;have hl:(us++ds).length=ps.length:=by rw [<-r2.length];exact F.len _ _ _ _ h
 refine wpAny_call (codeAny_mono (F.run X.A X.stack s H ⟨us,[]⟩ (us++ds) (vs++dvs) Q E hr I.env0 (hb s us I.kIn hl) r2 h) λr s' hq => ?_);cases r with
 |error e=>exact hx pins σ H s e s' I hq
 |ok fl=>
  cases fl with
  |ret u=>exact I.after hq
  |next=>exact False.elim hq
  |brk=>exact False.elim hq
  |cont=>exact False.elim hq
theorem Z2 (F:FnOk X.prog X.w X.K X.mg X.base CX k f fd ps sp) (hr:Room k X.A) (hg:Gl X x) (hm:X.mg x=some (.ref f)) (hk:keepIn X.K (.ref f)=true) (hb:Binds X.K fd ps ds) (hd:Vals dvs ds) (hx:U1 CX X E)
 (ha:PA X (e::es) t) (hdb:(x == ("__debug__" : Str))=false:=by decide) (he:starEach (e::es) X.env=(false,eval e X.env)::starEach es X.env:=by rfl) (hpl:(backTo pos (starEach es X.env)).any (·.1)=false:=by rfl) :
 PE X (.Call (.Name x p) (e::es) [] pos) (Zhd sp dvs E t):=by
 intro pins s σ H Q I h;refine wpAny_Call_Name_kw (ZcM I hg hm ?_ hdb);refine PySem.W.callWith_K (h₀:=X.base) I.ok.mod.kin hk (thn (ha pos pins s σ H _ I h) λus s1 ⟨vs,H1,I1,r,q⟩=>⟨I1.kIn,?_⟩) he hpl;exact Zfh F hr hb hd hx I1 r q
structure Mk(K:PySem.W.Frag)(C f:Addr):Prop where
 makes:PySem.W.makesIn K C=true
 init:PySem.W.findIn K (.ref C) "__init__" = some (some (.ref f))
 fn:isFn K (.ref f)=true
 kp:keepIn K (.ref C)=true
theorem Zen {pins:List (Addr×Obj)} {σ:St} {H:Hp} {s:Shared} {Q:VK} {us:List Value} {vs:List V} (M:Mk X.K C f) (F:FnOk X.prog X.w X.K X.mg X.base CX k f fd ps sp) (hr:Room (k+1) X.A) (hb:Binds X.K fd ps ds) (hd:Vals dvs ds)
 (hx:U1 CX X E) (I:Inv X pins σ H s) (r:Vals vs us)
 (h:∀x dx,H x=none->H dx=none->dx≠x->sp (.ref x::(vs++dvs)) (upd (upd H dx (.own x)) x (.ins C dx [])) (λv H2=>v = .non/\Q (.ref x) H2) E) :
 wpAny (model X.prog X.w) X.A (call (.ref C) us) (EP X pins σ Q) X.xe s:=by
 have hq:=h (s.heap.objs.size+1) s.heap.objs.size (I.hok.fresh (Nat.le_succ _)) (I.hok.fresh (Nat.le_refl _)) (Nat.ne_of_lt (Nat.lt_succ_self _));have I2:=Inv.made (C:=C) I;have r2:Vals (V.ref (s.heap.objs.size+1)::(vs++dvs)) (Value.ref (s.heap.objs.size+1)::(us++ds)) := .cons rfl (r.append hd)
 have hl:(Value.ref (s.heap.objs.size+1)::us++ds).length=ps.length:=by
  have e:=r2.length;rw [F.len _ _ _ _ hq]at e;exact e.symm
 refine wpAny_call (Zem (f:=f) I.kIn M.makes M.init (beq_iff_eq.mp M.fn) (codeAny_mono (F.run _ X.stack _ _ ⟨Value.ref (s.heap.objs.size+1)::us,[]⟩ (Value.ref (s.heap.objs.size+1)::(us++ds)) _ _ E (hr.make C us [])
  (I2.env0.make C us []) (hb _ (Value.ref (s.heap.objs.size+1)::us) I2.kIn hl) r2 hq) λr s' hq' => ?_))
 cases r with
 |error e=>exact hx pins σ _ _ e s' I2 hq'
 |ok fl=>
  cases fl with
  |ret u=>
   obtain⟨v,H',I3,rv,ev,q3⟩:=I2.after hq';subst ev;exact⟨rv,⟨V.ref (s.heap.objs.size+1),H',I3,rfl,q3⟩⟩
  |next=>exact False.elim hq'
  |brk=>exact False.elim hq'
  |cont=>exact False.elim hq'
theorem Zf0 (M:Mk X.K C f) (F:FnOk X.prog X.w X.K X.mg X.base CX k f fd ps sp) (hr:Room (k+1) X.A) (hg:Gl X x) (hm:X.mg x=some (.ref C)) (hb:Binds X.K fd ps ds) (hd:Vals dvs ds) (hx:U1 CX X E)
 (ha:PA X (e::es) t) (hdb:(x == ("__debug__" : Str))=false:=by decide) (he:starEach (e::es) X.env=(false,eval e X.env)::starEach es X.env:=by rfl) (hpl:(backTo pos (starEach es X.env)).any (·.1)=false:=by rfl) :
 PE X (.Call (.Name x p) (e::es) [] pos) (Zhe C sp dvs E t):=by
 intro pins s σ H Q I h;refine wpAny_Call_Name_kw (ZcM I hg hm ?_ hdb);refine PySem.W.callWith_K (h₀:=X.base) I.ok.mod.kin M.kp (thn (ha pos pins s σ H _ I h) λus s1 ⟨vs,H1,I1,r,q⟩=>⟨I1.kIn,?_⟩) he hpl;exact Zen M F hr hb hd hx I1 r q
end
section
variable{X:Cx}{CX:CXT}{k:Nat}{f C:Addr}{fd:FuncData}{ps ks:List Str}{sp:Sp}{E:XK}{x m:Str}{p pos apos kpos:Pos}{e o:Expr}{es:List Expr}{kws:List Keyword}{te ta:TE}{t tk:TA}{nm:Option Str}
structure KBinds(K:PySem.W.Frag)(fd:FuncData)(ps ks:List Str)(g:List Value->List Value->List Value)(gV:List V->List V->List V):Prop where
 to:∀(s:Shared)(us ws:List Value),K.In s.heap->(g us ws).length=ps.length->BindsTo s fd ⟨us,ks.zip ws⟩ (ps.zip (g us ws))
 rel:∀{vs:List V}{us:List Value}{zs:List V}{ws:List Value},Vals vs us->Vals zs ws->Vals (gV vs zs) (g us ws)
variable{g:List Value->List Value->List Value}{gV:List V->List V->List V}
end
structure FnScope(N P:List Str)(sc:Scope):Prop where
 kind:sc.kind = .function
 co:sc.isCoroutine=false
 gen:sc.isGenerator=false
 nd:N.Nodup
 pre:N.take P.length=P
 par:∀x∈P,sc.names.lookup x=some .local\/sc.names.lookup x=some .cell
 nofree:∀y∈sc.names,y.2 ≠ .free
theorem ZaQ{kindOf:Str->Option NameKind}{x:Str}:∀{binds:List (Str×Value)}{m:Str->Option Value},(∀v,(x,v)∉binds)->bindL kindOf binds m x=m x
 | [],_,_=>rfl
 |(n,v)::r,m,h=>by
  unfold bindL;rw [ZaQ λw hw=>h w (List.mem_cons_of_mem _ hw)]
  split
  · have:x≠n:=by rintro rfl;exact h v List.mem_cons_self
    simp [this]
  · rfl
theorem ZaR{kindOf:Str->Option NameKind}{x:Str}:∀{binds:List (Str×Value)}{m:Str->Option Value},(∀v,(x,v)∉binds)->bindC kindOf binds m x=m x
 | [],_,_=>rfl
 |(n,v)::r,m,h=>by
  unfold bindC;rw [ZaR λw hw=>h w (List.mem_cons_of_mem _ hw)]
  split
  · rfl
  · have:x≠n:=by rintro rfl;exact h v List.mem_cons_self
    simp [this]
theorem ZaS{kindOf:Str->Option NameKind}{x:Str}{v:Value}:∀{P:List Str}{vs:List Value}{i:Nat}{m:Str->Option Value},P.Nodup->P[i]? = some x->vs[i]? = some v->kindOf x=some .local ->
 bindL kindOf (P.zip vs) m x=some v
 | [],_,_,_,_,h,_,_=>by simp at h
 |_::_,[],_,_,_,_,h,_=>by simp at h
 |p::P,w::vs,0,m,nd,h1,h2,hk=>by
  simp at h1 h2;subst h1;subst h2;show bindL kindOf ((p,w)::P.zip vs) m p=_;unfold bindL;rw [ZaQ λv hv=>(List.nodup_cons.mp nd).1 (List.of_mem_zip hv).1,if_pos hk];simp
 |p::P,w::vs,i+1,m,nd,h1,h2,hk=>by
  show bindL kindOf ((p,w)::P.zip vs) m x=_;unfold bindL;exact ZaS (i:=i) (List.nodup_cons.mp nd).2 (by simpa using h1) (by simpa using h2) hk
theorem ZaT{kindOf:Str->Option NameKind}{x:Str}{v:Value}:∀{P:List Str}{vs:List Value}{i:Nat}{m:Str->Option Value},P.Nodup->P[i]? = some x->vs[i]? = some v->kindOf x≠some .local ->
 bindC kindOf (P.zip vs) m x=some v
 | [],_,_,_,_,h,_,_=>by simp at h
 |_::_,[],_,_,_,_,h,_=>by simp at h
 |p::P,w::vs,0,m,nd,h1,h2,hk=>by
  simp at h1 h2;subst h1;subst h2;show bindC kindOf ((p,w)::P.zip vs) m p=_;unfold bindC;rw [ZaR λv hv=>(List.nodup_cons.mp nd).1 (List.of_mem_zip hv).1,if_neg hk];simp
 |p::P,w::vs,i+1,m,nd,h1,h2,hk=>by
  show bindC kindOf ((p,w)::P.zip vs) m x=_;unfold bindC;exact ZaT (i:=i) (List.nodup_cons.mp nd).2 (by simpa using h1) (by simpa using h2) hk
def start(N:List Str)(vs:List V):St:=vs.map some++List.replicate (N.length-vs.length) none
def XI(CX:CXT)(P:Program)(w:World)(K:PySem.W.Frag)(mg:Str->Option Value)(base:Heap)(N:List Str)(qual:Str)(scope:Scope)(f:Addr)(cd:Value)(A:Around)(outer:List Env)(s:Shared)(H:Hp)(E:XK):Cx where
 prog:=P
 w:=w
 K:=K
 mg:=mg
 base:=base
 A:=A.deeper (envOfC qual scope s.heap.objs.size f cd)
 N:=N
 s₀:=s
 H₀:=H
 env:=envOfC qual scope s.heap.objs.size f cd
 outer:=outer
 stack:=envOfC qual scope s.heap.objs.size f cd::outer
 ex:=[]
 calm:=true
 fn:=λ_=>true
 pn:=[]
 xe:=λe s'=>wpAny (model P w) (A.deeper (envOfC qual scope s.heap.objs.size f cd)) (leaving (envOfC qual scope s.heap.objs.size f cd) e) (λ_ s''=>CX outer H s E e s'') (λe' s''=>CX outer H s E e' s'') s'
theorem ZbD{sc:Scope}{n:Nat}{x:Str}(h:sc.names.lookup x=some .cell):∃c,(cellsFrom n sc.names []).lookup x=some c:=by
 have q:=PySem.W.cellsFrom_some sc.names n [] (.inl h);exact Option.isSome_iff_exists.mp q
theorem ZdI {CX:CXT} {P:Program} {w:World} {K:PySem.W.Frag} {mg:Str->Option Value} {base:Heap} {N ps:List Str} {qual:Str} {scope:Scope} {f:Addr} {cd:Value} {A:Around} {outer:List Env} {s s1:Shared} {H:Hp} {E:XK} {us:List Value} {vs:List V}
 (S:FnScope N ps scope) (hd:A.handled=none) (e0:Env0 P w K mg base A outer s H) (hl:vs.length=ps.length) (r:Vals vs us)
 (x:InCallC s s.heap.objs.size (bindL (envOfC qual scope s.heap.objs.size f cd).kindOf (ps.zip us) λ_=>none) (cellsFrom (s.heap.objs.size+1) scope.names []) (bindC (envOfC qual scope s.heap.objs.size f cd).kindOf (ps.zip us) λ_=>none) s1) :
 Inv (XI CX P w K mg base N qual scope f cd A outer s H E) [] (start N vs) H s1:=by
 have hpl:ps.length<=N.length:=by have:=congrArg List.length S.pre;rw [List.length_take]at this;omega
 obtain⟨h1,tk,rfl,hk⟩:=x.done;have noA:∀b:Addr,b∉(XI CX P w K mg base N qual scope f cd A outer s H E).ex:=λb z=>absurd (show b∈([]:List Addr)from z) (by simp)
 refine⟨⟨e0.mod,S.kind,rfl,rfl,Nat.le_refl _,λy z c h1 h2 => ?_,λy hy => ?_,λy c _ h => ?_,λ_=>hd,Around.frames_deeper e0.frames,.inr ⟨rfl,rfl⟩,λb z=>absurd z (noA b),e0.bs,e0.bsz,λb _ _=>noA b,λb z=>absurd z (noA b),e0.funs,e0.frf⟩,
  rfl,e0.bare,Un.kept hk,⟨_,x.toInCall.ns,λi y v h1 h2 h3 => ?_⟩,λy c h=>⟨_,x.cell y c h⟩,e0.hok.fresh (Nat.le_refl _),λy c h => ?_,λp hp=>absurd (show p∈([]:List (Addr×Obj))from hp) (by simp),e0.hok.kept hk,?_⟩
 · exact name_of_addr x.apart (PySem.mem_of_lookup h1) (PySem.mem_of_lookup h2)
 · have hy:scope.names.lookup y=some .cell\/scope.names.lookup y=some .free:=hy
   rcases hy with hy|hy
   · exact ZbD hy
   · exact absurd rfl (S.nofree _ (PySem.mem_of_lookup hy))
 · exact Nat.le_of_lt (x.above y c (PySem.mem_of_lookup h))
 · have hi : i < vs.length := by
    unfold start at h2
    by_cases hi:i<vs.length
    · exact hi
    · rw [List.getElem?_append_right (by simpa using hi)]at h2
      rw [List.getElem?_replicate]at h2
      split at h2<;>cases h2
   have ha:vs[i]? = some v:=by
    unfold start at h2;rw [List.getElem?_append_left (by simpa using hi),List.getElem?_map]at h2;cases e:vs[i]? with
    |none=>rw [e]at h2;cases h2
    |some a=>rw [e]at h2;cases h2;rfl
   obtain⟨u,hu,rv⟩:=r.get ha
   have hp:ps[i]? = some y:=by
    rw [<-S.pre,List.getElem?_take_of_lt (by omega)];exact h1
   have ndP:ps.Nodup:=by rw [<-S.pre];exact S.nd.sublist (List.take_sublist _ _)
   refine⟨u,rv,?_⟩;rcases S.par y (List.mem_of_getElem? hp)with k|k
   · exact .inl ⟨k,ZaS ndP hp hu k⟩
   · obtain⟨c,e⟩:=ZbD (n:=s.heap.objs.size+1) k
     refine .inr ⟨.inl k,c,e,?_⟩;have q:=x.cell y c e;rw [ZaT ndP hp hu (by show scope.names.lookup y≠_;rw [k];decide)]at q;exact q
 · exact e0.hok.fresh (Nat.le_of_lt (x.above y c (PySem.mem_of_lookup h)))
 · unfold start
   show _=N.length;rw [List.length_append,List.length_map,List.length_replicate];omega
theorem Zhf {CX:CXT} {P:Program} {w:World} {K:PySem.W.Frag} {mg:Str->Option Value} {base:Heap} {k:Nat} {f:Addr} {name qual:Str} {params:Arguments} {body:List Stmt} {scope:Scope} {dV kV doc pm cdv ct oc:Value} {an od:Option Addr}
 {osl:Array (Option Value)} {N ps:List Str} {sp:Sp} (lk:K.lookup f=some ⟨oc,od,.func (fnOf name qual params body scope dV kV doc pm an cdv ct),osl⟩) (hcd:codeIn K cdv qual=true) (S:FnScope N ps scope)
 (len:∀vs H Q E,sp vs H Q E->vs.length=ps.length)
 (hbody:∀(A:Around)(outer:List Env)(s:Shared)(H:Hp)(vs:List V)(Q:VK)(E:XK),Room k (A.deeper (envOfC qual scope s.heap.objs.size f cdv))->sp vs H Q E ->
   ∃t,PSs (XI CX P w K mg base N qual scope f cdv A outer s H E) body t/\t { nx:=λ_ H'=>Q .non H',rt:=Q } (start N vs) H) :
 FnOk P w K mg base CX (k+1) f (fnOf name qual params body scope dV kV doc pm an cdv ct) ps sp:=by
 refine⟨len,λA outer s H args us vs Q E hr e0 hb r hsp => ?_⟩;have hl:=len _ _ _ _ hsp;have KX:K.In s.heap:=e0.mod.kin.keeps λb o e=>(e0.bs b o e).1
 have lim:s.heap.NoLimit:=e0.mod.nolimit.keeps λb o e=>(e0.bs b o e).1
 have hkind:∀y∈ps.zip us,scope.names.lookup y.1=some .local\/(scope.names.lookup y.1=some .cell/\((cellsFrom (s.heap.objs.size+1) scope.names []).lookup y.1).isSome=true):=λ⟨n,v⟩ hy=>by
  rcases S.par n (List.of_mem_zip hy).1 with q|q
  · exact .inl q
  · exact .inr ⟨q,PySem.W.cellsFrom_some _ _ _ (.inl q)⟩
 refine codeAny_call_function hr.depth (KX _ _ lk) rfl S.co S.gen rfl (PySem.W.codeRec_of KX hcd) (hb _ _ _ _ ?_);refine wpAny_newFunctionEnv_cells S.kind hkind λenv he s1 x => ?_
 subst he;refine⟨lim.keeps x.toInCall.keep,codeAny_func ?_⟩;obtain⟨t,ht,hq⟩:=hbody A outer s H vs Q E (hr.deeper _) hsp;have I:Inv (XI CX P w K mg base N qual scope f cdv A outer s H E) [] (start N vs) H s1:=ZdI S hr.hd e0 hl r x;refine wpAny_mono (ht [] s1 (start N vs) H _ I hq) (λfl s' hs => ?_) λe s' hs=>hs
 have fin:∀{σ':St}{H':Hp}{v:V}{u:Value},Inv (XI CX P w K mg base N qual scope f cdv A outer s H E) [] σ' H' s'->RelV v u->Q v H'->CE outer P w H s Q u s':=
  λ{σ' H' v u} J rv q=>⟨v,H',J.os,J.bare,J.base,J.hok,rv,q⟩
 cases fl with
 |ret u=>
  obtain⟨v,σ',H',J,rv,q⟩:=hs;exact fin J rv q
 |next=>
  obtain⟨σ',H',J,q⟩:=hs;exact fin (v:=V.non) (u:=Value.none) J rfl q
 |brk=>
  obtain⟨_,_,_,q⟩:=hs;exact False.elim q
 |cont=>
  obtain⟨_,_,_,q⟩:=hs;exact False.elim q
end L2
namespace L2
open PySem PySem.Spec PyProof.Rows
section
variable{X:Cx}{x:Str}{p pos:Pos}{e:Expr}{es:List Expr}{t:TA}{id T:String}{r:List V->Hp->VK->Prop}
def tCB(r:List V->Hp->VK->Prop)(t:TA):TE:=λσ H Q=>t σ H λvs H1=>r vs H1 Q
theorem ZO (hc:YG X (.builtin id) r) (hg:Gl X x) (hm:X.mg x=none) (hv:bootBuiltins x=some (.builtin id)) (ha:PA X (e::es) t) (hn:x ≠ "__name__" := by decide) (hdb:(x == ("__debug__" : Str))=false:=by decide)
 (he:starEach (e::es) X.env=(false,eval e X.env)::starEach es X.env:=by rfl) (hpl:(backTo pos (starEach es X.env)).any (·.1)=false:=by rfl):PE X (.Call (.Name x p) (e::es) [] pos) (tCB r t):=by
 intro pins s σ H Q I h;refine wpAny_Call_Name_kw (Vf I hg hm hv ?_ hn hdb);exact PyProof.Rows.callWith_builtin1 (thn (ha pos pins s σ H _ I h) λus s1 ⟨vs,H1,I1,r1,q1⟩=>hc pins s1 σ H1 vs us Q I1 r1 q1) he hpl
theorem Xk (hc:YG X (.type T) r) (hg:Gl X x) (hm:X.mg x=none) (hv:bootBuiltins x=some (.type T)) (ha:PA X (e::es) t) (hn:x ≠ "__name__" := by decide) (hdb:(x == ("__debug__" : Str))=false:=by decide)
 (he:starEach (e::es) X.env=(false,eval e X.env)::starEach es X.env:=by rfl) (hpl:(backTo pos (starEach es X.env)).any (·.1)=false:=by rfl):PE X (.Call (.Name x p) (e::es) [] pos) (tCB r t):=by
 intro pins s σ H Q I h;refine wpAny_Call_Name_kw (Vf I hg hm hv ?_ hn hdb);exact PyProof.Rows.callWith_type1 (thn (ha pos pins s σ H _ I h) λus s1 ⟨vs,H1,I1,r1,q1⟩=>hc pins s1 σ H1 vs us Q I1 r1 q1) he hpl
end
end L2
namespace HT
open PySem PyProof.Rows
section
open PySem.SeqAt
open PySem.AutoSeq1 (wpAny_loadPart')
open PySem.MeetsSeq PySem.MeetsSeq2 PySem.MeetsSeq3
end
section
variable{prog:Program}{w:World}{A:Around}{E:Value->Shared->Prop}{s:Shared}
def sIx(n d:Nat):Option Int->Nat
 |none=>d
 |some v=>if v<0 then(v+(n:Int)).toNat else min v.toNat n
theorem ZhY(n d:Nat)(hd:d<=n)(o:Option Int):sIx n d o<=n:=by
 cases o with
 |none=>exact hd
 |some v=>
  show(if v<0 then(v+(n:Int)).toNat else min v.toNat n)<=n
  by_cases hv:v<0
  · rw [if_pos hv];omega
  · rw [if_neg hv];exact Nat.min_le_right _ _
theorem ZcS(v:Int)(n d:Nat):(if v<0 then max (v+(n:Int)) 0 else min v (n:Int))=((sIx n d (some v):Nat):Int):=by
 show(if v<0 then max (v+(n:Int)) 0 else min v (n:Int))=(((if v<0 then(v+(n:Int)).toNat else min v.toNat n):Nat):Int)
 by_cases hv:v<0
 · simp only [if_pos hv];omega
 · simp only [if_neg hv];omega
theorem Zcc(lo hi:Option Int)(n:Nat):Builtin.Slice.sliceAdjust lo hi 1 (n:Int)=(((sIx n 0 lo:Nat):Int),((sIx n n hi:Nat):Int)):=by
 have h1:¬((1:Int)<0):=by omega
 unfold Builtin.Slice.sliceAdjust;simp only [h1,if_false];refine Prod.ext ?_ ?_
 · cases lo with
   |none=>rfl
   |some v=>exact ZcS v n 0
 · cases hi with
   |none=>rfl
   |some v=>exact ZcS v n n
theorem Zcd(i j:Nat):Builtin.Slice.slicePlaces (i:Int) (j:Int) 1=j-i:=by
 unfold Builtin.Slice.slicePlaces;have h1:(1:Int)>0:=by omega
 simp only [h1,if_true,Int.ediv_one]
 split<;>omega
theorem Zat{v:Value}{o:Option Int}{Q:Option Int->Shared->Prop}(p:IsPart v o)(h:Q o s):wpAny (model prog w) A (Builtin.Slice.slicePartIndex v) Q E s:=by
 cases p with
 |none=>exact slicePart_none h
 |int i t=>exact slicePart_int h
theorem Zai {sl:Addr} {vl vu:Value} {lo hi:Option Int} {n:Nat} {Q:Int×Int×Nat->Shared->Prop} (hs:s.heap.IsSliceOf sl vl vu .none) (pl:IsPart vl lo) (pu:IsPart vu hi)
 (h:Q (((sIx n 0 lo:Nat):Int),1,sIx n n hi-sIx n 0 lo) s):wpAny (model prog w) A (Builtin.Slice.sliceApplied (.ref sl) (pure (n:Int))) Q E s:=by
 obtain⟨os,hos,hcs,hds⟩:=id hs;unfold Builtin.Slice.sliceApplied Builtin.Slice.sliceFields;refine wpAny_bind (wpAny_bind (wpAny_field hos hds (x:=vl) rfl (wpAny_bind (wpAny_field hos hds (x:=vu) rfl (wpAny_bind (wpAny_field hos hds (x:=.none) rfl (wpAny_pure ?_)))))));refine wpAny_bind (slicePart_none ?_);show wpAny _ _ (if((1:Int) == 0)=true then _ else _) _ _ s;rw [if_neg (by decide)]
 refine wpAny_bind (Zat pl (wpAny_bind (Zat pu (wpAny_bind (wpAny_pure ?_)))));show wpAny _ _ (match Builtin.Slice.sliceAdjust lo hi 1 (n:Int)with|(lo,hi)=>pure (lo,(1:Int),Builtin.Slice.slicePlaces lo hi 1)) _ _ s;rw [Zcc lo hi n];show wpAny _ _ (pure (((sIx n 0 lo:Nat):Int),(1:Int),Builtin.Slice.slicePlaces ((sIx n 0 lo:Nat):Int) ((sIx n n hi:Nat):Int) 1)) _ _ s;rw [Zcd]
 exact wpAny_pure h
theorem Zeo(xs:Array Value)(i k:Nat):((List.range k).filterMap λ(m:Nat)=>xs[((i:Int)+(m:Int)*1).toNat]?).toArray=((xs.toList.drop i).take k).toArray:=by
 have e:(λ(m:Nat)=>xs[((i:Int)+(m:Int)*1).toNat]?)=λm=>xs[i+m]? := by
  funext m
  have:((i:Int)+(m:Int)*1).toNat=i+m:=by omega
  rw [this]
 rw [e];have:=pick_run xs i k;rw [List.filterMap_map]at this;have e2:((λx=>xs[x]?)∘λx=>i+x)=λm=>xs[i+m]? := rfl
 rw [e2]at this;rw [this]
theorem getItem_tuple_cut {t sl:Addr} {items:Array Value} {vl vu:Value} {lo hi:Option Int} {Q:Value->Shared->Prop} (ht:IsTup s.heap t items) (hs:s.heap.IsSliceOf sl vl vu .none) (pl:IsPart vl lo) (pu:IsPart vu hi)
 (hw:¬(sIx items.size 0 lo=0/\sIx items.size items.size hi=items.size))
 (h:Q (.ref s.heap.objs.size) { s with heap:=s.heap.push { cls := .type "tuple",data := .seq ((items.toList.drop (sIx items.size 0 lo)).take (sIx items.size items.size hi-sIx items.size 0 lo)).toArray } })
 (hsz:items.size<=sizeLine):wpAny (model prog w) A (getItem (.ref t) (.ref sl)) Q E s:=by
 have htake:sizeOk (.seq ((items.toList.drop (sIx items.size 0 lo)).take (sIx items.size items.size hi-sIx items.size 0 lo)).toArray):=by
  show((items.toList.drop (sIx items.size 0 lo)).take (sIx items.size items.size hi-sIx items.size 0 lo)).toArray.size<=sizeLine;rw [List.size_toArray,List.length_take,List.length_drop,Array.length_toList];omega
 have hj:sIx items.size items.size hi<=items.size:=ZhY _ _ (Nat.le_refl _) hi;obtain⟨os,hos,hcs,hds⟩:=id hs;have hTs:s.TypeIs (.ref sl) "slice" := ⟨os,hos,hcs⟩
 unfold getItem
 try with_reducible refine wpAny_holding ?_
 first|refine wpAny_bind (wpAny_pure ?_)|skip
 refine wpAny_bind (wpAny_sequenceKey ht.typeIs (by decide) ?_)
 refine wpAny_bind (wpAny_callSpecial?_slot (name:=Str.ofString "__getitem__") ht.typeIs PyProof.Rows.slot_tuple_getitem
  (wpAny_call_entry PyProof.Rows.slot_tuple_getitem ht.typeIs entry_tuple_getitem ?_ (args_tuple_getitem _ _)))
 show wpAny _ _ (Builtin.Tuple.tupleItemsOf (.ref t) >>= _) _ _ s;refine wpAny_bind (tupleItemsOf_ ht ?_);refine wpAny_bind (wpAny_typeOf hTs ?_);rw [if_pos (by decide)];refine wpAny_bind (Zai hs pl pu ?_)
 have hno:¬((((sIx items.size 0 lo:Nat):Int) == 0&&(1:Int) == 1&&(sIx items.size items.size hi-sIx items.size 0 lo) == items.size)=true):=by
  intro q;rw [Bool.and_eq_true,Bool.and_eq_true]at q;have q1:((sIx items.size 0 lo:Nat):Int)=0:=eq_of_beq q.1.1;have q2:sIx items.size items.size hi-sIx items.size 0 lo=items.size:=eq_of_beq q.2;exact hw ⟨by omega,by omega⟩
 show wpAny _ _ (if(((sIx items.size 0 lo:Nat):Int) == 0&&(1:Int) == 1&&(sIx items.size items.size hi-sIx items.size 0 lo) == items.size)=true then _ else _) _ _ s;rw [if_neg hno,Zeo]
 first
  |exact wpAny_bind (m:=Builtin.Tuple.tupleExact _) (wpAny_newObj_type (wpAny_pure ⟨_,rfl,wpAny_pure h⟩) htake)
  |exact wpAny_bind (m:=Builtin.Tuple.tupleExact _) (wpAny_newObj_type (wpAny_bind (wpAny_pure (wpAny_pure ⟨_,rfl,wpAny_pure h⟩))) htake)
  |exact wpAny_bind (wpAny_bind (m:=Builtin.Tuple.tupleExact _) (wpAny_newObj_type (wpAny_pure (wpAny_pure ⟨_,rfl,wpAny_pure h⟩)) htake))
  |exact wpAny_bind (wpAny_bind (m:=Builtin.Tuple.tupleExact _) (wpAny_newObj_type (wpAny_pure ⟨_,rfl,wpAny_pure h⟩) htake))
end
end HT
namespace L2
open PySem PySem.Spec PyProof.Rows
abbrev TO:=St->Hp->(Option Int->Hp->Prop)->Prop
def PO(X:Cx)(e:Option Expr)(t:TO):Prop:=
 ∀(pins:List (Addr×Obj))(s:Shared)(σ:St)(H:Hp)(Q:Option Int->Hp->Prop),Inv X pins σ H s->t σ H Q ->
  wpAny (model X.prog X.w) X.A (evalPart e X.env) (λu s'=>∃o H',Inv X pins σ H' s'/\IsPart u o/\Q o H') X.xe s
def tNoPart:TO:=λ_ H Q=>Q none H
def Zhg(t:TE):TO:=λσ H Q=>t σ H λx H1=>∃i,x = .int i/\Q (some i) H1
section
variable{X:Cx}{e:Expr}{te:TE}{lo hi:Option Expr}{tl th:TO}{pos p2:Pos}
theorem ZcT:PO X none tNoPart:=by
 intro pins s σ H Q I h;rw [evalPart_none];exact wpAny_pure ⟨none,H,I,.none,h⟩
theorem VP(h:PE X e te):PO X (some e) (Zhg te):=by
 intro pins s σ H Q I hw;rw [evalPart_some];refine thn (h pins s σ H _ I hw) λu s1 ⟨x,H1,I1,r1,q1⟩ => ?_
 obtain⟨i,rfl,q⟩:=q1;obtain⟨t,rfl⟩:=r1;exact⟨some i,H1,I1,.int i t,q⟩
def SlR(X:Cx)(r:V->Option Int->Option Int->Hp->VK->Prop):Prop:=
 ∀(pins:List (Addr×Obj))(s:Shared)(σ:St)(H:Hp)(x:V)(v vl vu:Value)(lo hi:Option Int)(sl:Addr)(Q:VK),Inv X pins σ H s->RelV x v->s.heap.IsSliceOf sl vl vu .none->IsPart vl lo->IsPart vu hi->r x lo hi H Q ->
  ∃T id,typeLookup (.type T) "__getitem__" = pure (some (.builtin id))/\s.TypeIs v T/\wpAny (model X.prog X.w) X.A (getItem v (.ref sl)) (EP X pins σ Q) X.xe s
theorem SlR.or{r r':V->Option Int->Option Int->Hp->VK->Prop}(h:SlR X r)(h':SlR X r'):SlR X (λx lo hi H Q=>r x lo hi H Q\/r' x lo hi H Q):=by
 intro pins s σ H x v vl vu lo hi sl Q I rx hs pl pu q;rcases q with q|q
 · exact h pins s σ H x v vl vu lo hi sl Q I rx hs pl pu q
 · exact h' pins s σ H x v vl vu lo hi sl Q I rx hs pl pu q
def tSl(r:V->Option Int->Option Int->Hp->VK->Prop)(te:TE)(tl th:TO):TE:=λσ H Q=>te σ H λx H1=>tl σ H1 λl H2=>th σ H2 λu H3=>r x l u H3 Q
theorem U2{r:V->Option Int->Option Int->Hp->VK->Prop}(hr:SlR X r)(he:PE X e te)(hl:PO X lo tl)(hu:PO X hi th):PE X (.Subscript e (.Slice lo hi none p2) pos) (tSl r te tl th):=by
 intro pins s σ H Q I h;refine Subscript_ (thn (he pins s σ H _ I h) λv s1 ⟨x,H1,I1,r1,q1⟩ => ?_);refine wpAny_Slice (thn (hl pins s1 σ H1 _ I1 q1) λvl s2 ⟨l,H2,I2,pl,q2⟩=>thn (hu pins s2 σ H2 _ I2 q2) λvu s3 ⟨u,H3,I3,pu,q3⟩ => ?_);rw [evalPart_none];refine wpAny_pure ?_;have I4:Inv X pins σ H3 { s3 with heap:=s3.heap.push { cls := .type "slice",data := .fields #[vl,vu,.none] } }:=I3.kept (t':=s3.toks) λb ob q=>Heap.get?_push_of_some _ q
 obtain⟨T,id,hT,ht,hg⟩:=hr pins { s3 with heap:=s3.heap.push { cls := .type "slice",data := .fields #[vl,vu,.none] } } σ H3 x v vl vu l u s3.heap.objs.size Q I4 r1 (Heap.IsSliceOf.new ..) pl pu q3;show wpAny (model X.prog X.w) X.A (subscriptTail e (.Slice lo hi none p2) v (.ref s3.heap.objs.size)) (EP X pins σ Q) X.xe { s3 with heap:=s3.heap.push { cls := .type "slice",data := .fields #[vl,vu,.none] } }
 exact tail_any (ops:=[.ref s3.heap.objs.size,v]) ht hT hg (by with_unfolding_all rfl)
def VQ(xs:List V)(lo hi:Option Int):List V:=(xs.drop (HT.sIx xs.length 0 lo)).take (HT.sIx xs.length xs.length hi-HT.sIx xs.length 0 lo)
theorem Zao(xs:List V)(lo hi:Option Int):(VQ xs lo hi).length<=xs.length:=by
 unfold VQ;rw [List.length_take,List.length_drop];omega
def Zkp(K:PySem.W.Frag):V->Option Int->Option Int->Hp->VK->Prop:=λx lo hi H Q=>∃a xs,x = .ref a/\SqT K H a xs /\
 ¬(HT.sIx xs.length 0 lo=0/\HT.sIx xs.length xs.length hi=xs.length)/\∀p,H p=none->Q (.ref p) (upd H p (.tup (VQ xs lo hi)))
theorem ZhZ:SlR X (Zkp X.K):=by
 intro pins s σ H x v vl vu lo hi sl Q I rx hs pl pu h;obtain⟨a,xs,rfl,hx,hw,q⟩:=h;cases rx;obtain⟨its,r,ht,hz⟩:=I.tuple hx;have hlen:its.toArray.size=xs.length:=by rw [List.size_toArray];exact r.length.symm
 refine⟨"tuple",_,PyProof.Rows.slot_tuple_getitem.lookup,ht.typeIs,?_⟩;refine HT.getItem_tuple_cut ht hs pl pu (by rw [hlen];exact hw) ?_ (by rw [hlen];exact hz);rw [hlen];refine⟨.ref s.heap.objs.size,_,I.laid (t':=s.toks) (o:=.tup (VQ xs lo hi)) (λb ob q=>Heap.get?_push_of_some _ q) (Nat.le_refl _) ?_,rfl,q _ (I.hok.fresh (Nat.le_refl _))⟩;exact⟨Nat.le_trans (Zao xs lo hi) hz,_,(r.drop (HT.sIx xs.length 0 lo)).take (HT.sIx xs.length xs.length hi-HT.sIx xs.length 0 lo),TupN.new _ _⟩
end
end L2
namespace L2
open PySem PySem.Spec PyProof.Rows
def ixN(n:Nat)(i:Int):Option Nat:=if 0<=i then(if i<n then some i.toNat else none)else if -(n:Int)<=i then some (i+n).toNat else none
def atI{α:Type}(xs:List α)(i:Int):Option α:=(ixN xs.length i).bind λj=>xs[j]?
theorem ZcU{n:Nat}{i:Int}{j:Nat}(h:ixN n i=some j):seqIndex? i n=some j/\j<n /\ -(n:Int)<=i/\i<n:=by
 unfold ixN at h
 by_cases h0:0<=i
 · rw [if_pos h0]at h
   by_cases h1:i<n
   · rw [if_pos h1]at h
     have e:i.toNat=j:=Option.some.inj h;exact⟨by rw [seqIndex_of h0 h1,e],by omega,by omega,h1⟩
   · rw [if_neg h1]at h;cases h
 · rw [if_neg h0]at h
   by_cases h1 : -(n:Int)<=i
   · rw [if_pos h1]at h
     have e:(i+n).toNat=j:=Option.some.inj h;exact⟨by rw [seqIndex_neg (by omega) h1,e],by omega,h1,by omega⟩
   · rw [if_neg h1]at h;cases h
theorem JI{α:Type}{xs:List α}{i:Int}{v:α}(h:atI xs i=some v):∃j,seqIndex? i xs.length=some j/\xs[j]? = some v/\j<xs.length /\ -(xs.length:Int)<=i/\i<xs.length:=by
 unfold atI at h;cases e:ixN xs.length i with
 |none=>rw [e]at h;cases h
 |some j=>
  rw [e]at h;obtain⟨h1,h2,h3,h4⟩:=ZcU e;exact⟨j,h1,h,h2,h3,h4⟩
theorem QM{α:Type}{xs:List α}{j:Nat}{v:α}(h:xs[j]? = some v):atI xs (j:Int)=some v:=by
 have hj:j<xs.length:=(List.getElem?_eq_some_iff.mp h).1
 have e:ixN xs.length (j:Int)=some j:=by
  unfold ixN;rw [if_pos (by omega),if_pos (by omega)];simp
 unfold atI;rw [e];exact h
def Zf1(b:Expr):Prop:=∀o i,subscripted b false o i=operate [o,i] (getItem o i)
def IxR(X:Cx)(r:R2):Prop:=
 ∀(value slice:Expr)(pins:List (Addr×Obj))(s:Shared)(σ:St)(H:Hp)(x y:V)(v u:Value)(Q:VK),Inv X pins σ H s->RelV x v->RelV y u->r x y H Q ->
  subscripted slice false v u=operate [v,u] (getItem v u)->wpAny (model X.prog X.w) X.A (subscriptTail value slice v u) (EP X pins σ Q) X.xe s
def MtR(X:Cx)(id:String)(r:V->List V->Hp->VK->Prop):Prop:=
 ∀(pins:List (Addr×Obj))(s:Shared)(σ:St)(H:Hp)(x:V)(xs:List V)(v:Value)(us:List Value)(Q:VK),Inv X pins σ H s->RelV x v->Vals xs us->r x xs H Q ->
  wpAny (model X.prog X.w) X.A (call (.builtin id) (v::us)) (EP X pins σ Q) X.xe s
section
variable{X:Cx}{a b:Expr}{ta tb:TE}{pos:Pos}
theorem IxR.or{r r':R2}(h:IxR X r)(h':IxR X r'):IxR X (λx y H Q=>r x y H Q\/r' x y H Q):=by
 intro value slice pins s σ H x y v u Q I rx ry q hs;rcases q with q|q
 · exact h value slice pins s σ H x y v u Q I rx ry q hs
 · exact h' value slice pins s σ H x y v u Q I rx ry q hs
theorem ZC{r:R2}(hr:IxR X r)(ha:PE X a ta)(hb:PE X b tb)(hs:Zf1 b):PE X (.Subscript a b pos) (tOp r ta tb):=by
 intro pins s σ H Q I h;exact Subscript_ (Zkj ha hb I h λv u s2 x y H2 I2 rx ry q=>hr a b pins s2 σ H2 x y v u Q I2 rx ry q (hs _ _))
def Zkq(K:PySem.W.Frag):R2:=λx y H Q=>∃p xs i v,x = .ref p/\y = .int i/\SqL K H p xs/\atI xs i=some v/\Q v H
def Zkr(K:PySem.W.Frag):R2:=λx y H Q=>∃p xs i v,x = .ref p/\y = .int i/\SqT K H p xs/\atI xs i=some v/\Q v H
def rIxS:R2:=λx y H Q=>∃z i c,x = .str z/\y = .int i/\z.length<=sizeLine/\atI z.cps.toList i=some c/\Q (.str ⟨#[c]⟩) H
theorem ix_list:IxR X (Zkq X.K):=by
 intro value slice pins s σ H x y v u Q I rx ry h hs;obtain⟨p,xs,i,z,rfl,rfl,hq,he,q⟩:=h;cases rx;obtain⟨t,rfl⟩:=ry;obtain⟨its,r,pl,hz⟩:=I.list hq;obtain⟨j,h1,h2,h3,h4,h5⟩:=JI he;obtain⟨w,ew,rw'⟩:=r.get h2;have hl:=r.length;have hn:=Uy;have fin:EP X pins σ Q w s:=⟨z,H,I,rw',q⟩
 by_cases h0:0<=i
 · have hj : i.toNat = j := by
    rw [seqIndex_of h0 h5]at h1;exact Option.some.inj h1
   exact item_listR pl.isList h0 (by omega) (by rw [hj];simpa using ew) fin hs
 · have hj : (i + (its.toArray.size : Int)).toNat = j := by
    rw [seqIndex_neg (by omega) h4]at h1;rw [List.size_toArray,<-hl];exact Option.some.inj h1
   exact subscriptTail_builtinR (x:=w) pl.isList.typeIs slot_list_getitem.lookup
    (wpAny_getItem_list_neg (Q:=λr s'=>r=w/\EP X pins σ Q r s') pl.isList (by omega) (by rw [List.size_toArray]<;>omega) (by omega) (by rw [hj];simpa using ew) ⟨rfl,fin⟩) hs
theorem ix_tup:IxR X (Zkr X.K):=by
 intro value slice pins s σ H x y v u Q I rx ry h hs;obtain⟨p,xs,i,z,rfl,rfl,hq,he,q⟩:=h;cases rx;obtain⟨t,rfl⟩:=ry;obtain⟨its,r,pl,hz⟩:=I.tuple hq;obtain⟨j,h1,h2,h3,h4,h5⟩:=JI he;obtain⟨w,ew,rw'⟩:=r.get h2;have hl:=r.length;have hn:=Uy;have fin:EP X pins σ Q w s:=⟨z,H,I,rw',q⟩
 exact subscriptTail_builtinR (x:=w) pl.typeIs slot_tuple_getitem.lookup
  (getItem_tuple (j:=j) (Q:=λr s'=>r=w/\EP X pins σ Q r s') pl (by omega) (by omega) (by rw [List.size_toArray,<-hl];exact h1) (by simpa using ew) ⟨rfl,fin⟩) hs
theorem ix_str:IxR X rIxS:=by
 intro value slice pins s σ H x y v u Q I rx ry h hs;obtain⟨z,i,c,rfl,rfl,hz,he,q⟩:=h;obtain⟨t,rfl⟩:=rx;obtain⟨t',rfl⟩:=ry;obtain⟨j,h1,h2,h3,h4,h5⟩:=JI he;have hl:z.cps.toList.length=z.length:=by simp [Str.length]
 rw [hl]at h1 h4 h5;have hn:=Uy
 exact tail_any (typeIs_str s z t) slot_str_getitem.lookup (getItem_str (c:=c) (by
  have e1:decide (i < -(2 ^ 63:Int))=false:=decide_eq_false (by omega);have e2:decide (i ≥ 2 ^ 63)=false:=decide_eq_false (by omega);rw [e1,e2,Bool.or_false]) (by rw [h1];simpa using h2) ⟨.str ⟨#[c]⟩,H,I.tok _,⟨_,rfl⟩,q⟩) hs
theorem Zce(its:List Value)(n j:Nat)(u:Value):Obj.mapSeq (·.setIfInBounds j u) { cls := .type "list",data := .seq its.toArray n }={ cls := .type "list",data := .seq (its.set j u).toArray n }:=by
 simp [Obj.mapSeq]
theorem Inv.lst{pins:List (Addr×Obj)}{σ:St}{H:Hp}{s:Shared}{p:Addr}{xs:List V}(I:Inv X pins σ H s)(h:H p=some (.lst xs)) :
 ∃(its:List Value) (n:Nat),Vals xs its/\s.heap.get? p=some { cls := .type "list",data := .seq its.toArray n }/\xs.length<=sizeLine:=by
 obtain⟨z,its,n,r,e⟩:=I.hok p _ h;exact⟨its,n,r,e,z⟩
theorem Inv.lstUpd {pins:List (Addr×Obj)} {σ:St} {H:Hp} {s:Shared} {p:Addr} {xs ys:List V} {its its':List Value} {n n':Nat} {f:Obj->Obj} (I:Inv X pins σ H s) (h:H p=some (.lst xs))
 (ho:s.heap.get? p=some { cls := .type "list",data := .seq its.toArray n }) (hf:f { cls := .type "list",data := .seq its.toArray n }={ cls := .type "list",data := .seq its'.toArray n' }) (r:Vals ys its') (hz:ys.length<=sizeLine) (t:Nat) :
 Inv X pins σ (upd H p (.lst ys)) { s with heap:=s.heap.update p f,toks:=t }:=by
 have e:(s.heap.update p f).get? p=some { cls := .type "list",data := .seq its'.toArray n' }:=by
  rw [Heap.get?_update_self f ho (by rw [hf]<;>rfl),hf]
 refine I.write (x:=p) (e:=p) (by rw [h];trivial) (.inl rfl) (λb u hb q=>(Heap.get?_update_other _ _ (Ne.symm hb)).trans q) ⟨_,e⟩ ?_;exact⟨hz,its',n',r,e⟩
def rSetL:V->V->V->Hp->(Hp->Prop)->Prop:=λo i v H Q=>∃p xs k j,o = .ref p/\i = .int k/\H p=some (.lst xs)/\ixN xs.length k=some j/\Q (upd H p (.lst (xs.set j v)))
theorem JJ:Zkh X rSetL:=by
 intro pins s σ H o i v ov iv u Q I ro ri rv h;obtain⟨p,xs,k,j,rfl,rfl,hp,hj,q⟩:=h;cases ro;obtain⟨t,rfl⟩:=ri;obtain⟨its,n,r,ho,hz⟩:=I.lst hp;obtain⟨h1,h2,h3,h4⟩:=ZcU hj;have hl:=r.length;have hn:=Uy
 have I':Inv X pins σ (upd H p (.lst (xs.set j v))) { s with heap:=s.heap.update p (Obj.mapSeq (·.setIfInBounds j u)) }:=
  I.lstUpd hp ho (Zce its n j u) (r.set rv j) (by rw [List.length_set];exact hz) s.toks
 by_cases h0:0<=k
 · have hk : k.toNat = j := by
    rw [seqIndex_of h0 h4]at h1;exact Option.some.inj h1
   exact PySem.W.ki_setAt ho h0 (by omega) (by rw [List.size_toArray,<-hl];exact h4) (by rw [hk];exact⟨_,I',q⟩)
 · have hk : (k + (its.toArray.size : Int)).toNat = j := by
    rw [seqIndex_neg (by omega) h3]at h1;rw [List.size_toArray,<-hl];exact Option.some.inj h1
   exact PySem.W.ki_setBack ho (by omega) (by rw [List.size_toArray,<-hl];exact h3) (by omega) (by rw [hk];exact⟨_,I',q⟩)
theorem Za9(lo hi:Option Int)(n:Nat):(sliceBounds lo hi none n).1=((HT.sIx n 0 lo:Nat):Int)/\(sliceBounds lo hi none n).2.1=((HT.sIx n n hi:Nat):Int)/\(sliceBounds lo hi none n).2.2=1:=by
 refine⟨?_,?_,rfl⟩
 · cases lo with
   |none=>simp [sliceBounds,HT.sIx]
   |some i=>
    simp only [sliceBounds,HT.sIx,Option.getD_none,show(1:Int)>0 by decide,if_true]
    by_cases h:i<0
    · simp only [h,if_true]<;>omega
    · simp only [h,if_false]<;>omega
 · cases hi with
   |none=>simp [sliceBounds,HT.sIx]
   |some i=>
    simp only [sliceBounds,HT.sIx,Option.getD_none,show(1:Int)>0 by decide,if_true]
    by_cases h:i<0
    · simp only [h,if_true]<;>omega
    · simp only [h,if_false]<;>omega
theorem ZaK(its:List Value)(lo hi:Option Int):slicePick its.toArray lo hi none=((its.drop (HT.sIx its.length 0 lo)).take (HT.sIx its.length its.length hi-HT.sIx its.length 0 lo)).toArray:=by
 obtain⟨h1,h2,h3⟩:=Za9 lo hi its.toArray.size;unfold slicePick;rw [h1,h2,h3];simp only [sliceRange_one,pick_run,List.size_toArray]<;>rfl
def Zks(K:PySem.W.Frag):V->Option Int->Option Int->Hp->VK->Prop:=λx lo hi H Q=>∃a xs,x = .ref a/\SqL K H a xs/\∀p,H p=none->Q (.ref p) (upd H p (.lst (VQ xs lo hi)))
theorem sl_list:SlR X (Zks X.K):=by
 intro pins s σ H x v vl vu lo hi sl Q I rx hs pl pu h;obtain⟨a,xs,rfl,hx,q⟩:=h;cases rx;obtain⟨its,r,ht,hz⟩:=I.list hx;have hlen:=r.length;refine⟨"list",_,slot_list_getitem.lookup,ht.isList.typeIs,?_⟩;refine wpAny_getItem_list_slice ht.isList hs pl pu .none (by simp) ?_ (by rw [List.size_toArray]<;>omega);rw [ZaK,<-hlen];refine⟨.ref s.heap.objs.size,_,I.laid (t':=s.toks) (o:=.lst (VQ xs lo hi)) (λb ob q=>Heap.get?_push_of_some _ q) (Nat.le_refl _) ?_,rfl,q _ (I.hok.fresh (Nat.le_refl _))⟩
 exact⟨Nat.le_trans (Zao xs lo hi) hz,_,0,(r.drop (HT.sIx xs.length 0 lo)).take (HT.sIx xs.length xs.length hi-HT.sIx xs.length 0 lo),Heap.get?_push_size _ rfl⟩
def Xl:V->Bool
 | .non=>true
 | .bl _=>true
 | .int _=>true
 | .str _=>true
 |_=>false
def eqV:V->V->Bool
 | .non,.non=>true
 | .bl a,.bl b=>a == b
 | .bl a,.int b=>(if a then 1 else 0) == b
 | .int a,.bl b=>a == (if b then 1 else 0)
 | .int a,.int b=>a == b
 | .str a,.str b=>a == b
 |_,_=>false
theorem Zh0{A:Around}{s:Shared}{y x:V}{u v:Value}(ry:RelV y u)(rx:RelV x v)(fy:Xl y=true)(fx:Xl x=true):SeqAt.EqAt A s u v (eqV y x):=by
 cases y with
 |non=>
  cases ry;cases x with
  |non=>cases rx;exact SeqAt.EqAt.same _
  |bl b=>cases rx;exact SeqAt.EqAt.none_bool b
  |int b=>obtain⟨t,rfl⟩:=rx;exact SeqAt.EqAt.none_int b t
  |str b=>obtain⟨t,rfl⟩:=rx;exact SeqAt.EqAt.none_str b t
  |_=>exact absurd (show false=true from fx) Bool.false_ne_true
 |bl a=>
  cases ry;cases x with
  |non=>cases rx;exact SeqAt.EqAt.bool_none a
  |bl b=>cases rx;exact SeqAt.EqAt.bool_bool a b
  |int b=>obtain⟨t,rfl⟩:=rx;exact SeqAt.EqAt.bool_int a b t
  |str b=>obtain⟨t,rfl⟩:=rx;exact SeqAt.EqAt.bool_str a b t
  |_=>exact absurd (show false=true from fx) Bool.false_ne_true
 |int a=>
  obtain⟨t',rfl⟩:=ry;cases x with
  |non=>cases rx;exact SeqAt.EqAt.int_none a t'
  |bl b=>cases rx;exact SeqAt.EqAt.int_bool a t' b
  |int b=>obtain⟨t,rfl⟩:=rx;exact SeqAt.EqAt.int_int a t' b t
  |str b=>obtain⟨t,rfl⟩:=rx;exact SeqAt.EqAt.int_str a t' b t
  |_=>exact absurd (show false=true from fx) Bool.false_ne_true
 |str a=>
  obtain⟨t',rfl⟩:=ry;cases x with
  |non=>cases rx;exact SeqAt.EqAt.str_none a t'
  |bl b=>cases rx;exact SeqAt.EqAt.str_bool a t' b
  |int b=>obtain⟨t,rfl⟩:=rx;exact SeqAt.EqAt.str_int a t' b t
  |str b=>obtain⟨t,rfl⟩:=rx;exact SeqAt.EqAt.str_str a t' b t
  |_=>exact absurd (show false=true from fx) Bool.false_ne_true
 |_=>exact absurd (show false=true from fy) Bool.false_ne_true
def eqU(x:V)(u:Value):Bool:=match u with
 | .none=>eqV .non x
 | .bool b=>eqV (.bl b) x
 | .int i _=>eqV (.int i) x
 | .str z _=>eqV (.str z) x
 |_=>false
theorem JK{x y:V}{u:Value}(r:RelV y u)(f:Xl y=true):eqU x u=eqV y x:=by
 cases y with
 |non=>cases r;rfl
 |bl b=>cases r;rfl
 |int i=>obtain⟨t,rfl⟩:=r;rfl
 |str z=>obtain⟨t,rfl⟩:=r;rfl
 |_=>exact absurd (show false=true from f) Bool.false_ne_true
theorem JL{x:V}:∀{xs:List V}{us:List Value},Vals xs us->xs.all Xl=true->us.any (eqU x)=xs.any λy=>eqV y x
 |_,_,.nil,_=>rfl
 |y::xs,u::us,.cons r t,f=>by
  rw [List.all_cons,Bool.and_eq_true]at f;rw [List.any_cons,List.any_cons,JK r f.1,JL t f.2]
theorem QN{A:Around}{s:Shared}{x:V}{v:Value}(rx:RelV x v)(fx:Xl x=true):∀{xs:List V}{us:List Value},Vals xs us->xs.all Xl=true->∀u∈us,SeqAt.EqAt A s u v (eqU x u)
 |_,_,.nil,_=>λu hu=>by cases hu
 |y::xs,u::us,.cons r t,f=>λu' hu=>by
  rw [List.all_cons,Bool.and_eq_true]at f;rcases List.mem_cons.mp hu with rfl|hu
  · rw [JK r f.1];exact Zh0 r rx f.1 fx
  · exact QN rx fx t f.2 u' hu
def inV(x:V)(xs:List V):Bool:=xs.any λy=>eqV y x
def rIn(K:PySem.W.Frag)(neg:Bool):R2:=λx y H Q=>∃p xs,y = .ref p/\(SqL K H p xs\/SqT K H p xs)/\Xl x=true/\xs.all Xl=true/\Q (.bl (if neg then !inV x xs else inV x xs)) H
theorem ZdJ:OpR X (compareOp .In) (rIn X.K false):=by
 intro pins s σ H x y v u Q I rx ry h;obtain⟨p,xs,rfl,hq,fx,fs,q⟩:=h;cases ry;rcases hq with hq|hq
 · obtain⟨its,r,pl,hz⟩:=I.list hq
   refine SeqAt.in_listAt (eqU x) pl.isList (λw hw=>QN rx fx r fs w (by simpa using hw)) ⟨.bl _,H,I,rfl,?_⟩;rw [show its.toArray.any (eqU x)=its.any (eqU x) by simp,JL r fs];exact q
 · obtain⟨its,r,pl,hz⟩:=I.tuple hq
   refine SeqAt.in_tupleAt (eqU x) pl (λw hw=>QN rx fx r fs w (by simpa using hw)) ⟨.bl _,H,I,rfl,?_⟩;rw [show its.toArray.any (eqU x)=its.any (eqU x) by simp,JL r fs];exact q
theorem Zba:YG X (.builtin "len") (λxs H Q=>∃p ys,xs=[.ref p]/\(SqL X.K H p ys\/SqT X.K H p ys)/\Q (.int ys.length) H):=by
 intro pins s σ H xs us Q I r h;obtain⟨p,ys,rfl,hq,q⟩:=h;obtain⟨u,rfl,rx⟩:=Xj r;cases rx;have hn:=Uy;rcases hq with hq|hq
 · obtain⟨its,r',pl,hz⟩:=I.list hq
   have hlen:=r'.length;exact Calls.call_len_list pl.isList (by simp only [List.size_toArray]<;>omega) ⟨.int ys.length,H,I.tok _,⟨s.toks+1,by rw [List.size_toArray,hlen]⟩,q⟩
 · obtain⟨its,r',pl,hz⟩:=I.tuple hq
   have hlen:=r'.length;exact len_tuple pl (by simp only [List.size_toArray]<;>omega) ⟨.int ys.length,H,I.tok _,⟨s.toks+1,by rw [List.size_toArray,hlen]⟩,q⟩
theorem Zbb:YG X (.builtin "len") (λxs H Q=>∃z,xs=[.str z]/\z.length<=sizeLine/\Q (.int z.length) H):=by
 intro pins s σ H xs us Q I r h;obtain⟨z,rfl,hz,q⟩:=h;obtain⟨u,rfl,t,rfl⟩:=Xj r;have hn:=Uy;exact len_str (by omega) ⟨.int z.length,H,I.tok _,⟨_,rfl⟩,q⟩
theorem Zbc:YG X (.type "list") (λxs H Q=>∃p ys,xs=[.ref p]/\(SqL X.K H p ys\/SqT X.K H p ys)/\∀l,H l=none->Q (.ref l) (upd H l (.lst ys))):=by
 intro pins s σ H xs us Q I r h;obtain⟨p,ys,rfl,hq,q⟩:=h;obtain⟨u,rfl,rx⟩:=Xj r;cases rx
 have fin:∀(its:List Value),Vals ys its->ys.length<=sizeLine->∀(h':Heap)(c':Nat),(∀b o',s.heap.get? b=some o'->h'.get? b=some o') ->
  h'.get? s.heap.objs.size=some { cls := .type "list",dict:=none,data := .seq its.toArray c',slots := #[] }->EP X pins σ Q (.ref s.heap.objs.size) { s with heap:=h' }:=λits r' hz h' c' kp e=>
  ⟨.ref s.heap.objs.size,_,I.laid (t':=s.toks) kp (Nat.le_refl _) (show ObjOk X.prog X.w _ h' _ (.lst ys)from⟨hz,its,c',r',e⟩),rfl,q _ (I.hok.fresh (Nat.le_refl _))⟩
 rcases hq with hq|hq
 · obtain⟨its,r',pl,hz⟩:=I.list hq
   have hlen:=r'.length;obtain⟨o,ho,hc,n,hd⟩:=pl.isList;exact call_list_seq p (.inl rfl) ho hc hd (λh' c' kp e=>fin its r' hz h' c' kp e) (by simp only [List.size_toArray]<;>omega)
 · obtain⟨its,r',pl,hz⟩:=I.tuple hq
   have hlen:=r'.length;obtain⟨o,ho,hc,n,hd⟩:=pl;exact call_list_seq p (.inr rfl) ho hc hd (λh' c' kp e=>fin its r' hz h' c' kp e) (by simp only [List.size_toArray]<;>omega)
theorem ZaL:YG X (.type "tuple") (λxs H Q=>∃p ys,xs=[.ref p]/\((SqL X.K H p ys/\∀l,H l=none->Q (.ref l) (upd H l (.tup ys)))\/(SqT X.K H p ys/\Q (.ref p) H))):=by
 intro pins s σ H xs us Q I r h;obtain⟨p,ys,rfl,h⟩:=h;obtain⟨u,rfl,rx⟩:=Xj r;cases rx;rcases h with⟨hq,q⟩|⟨hq,q⟩
 · obtain⟨its,r',pl,hz⟩:=I.list hq
   have hlen:=r'.length;refine call_tuple_list pl.isList (λh' kp => ?_) (by simp only [List.size_toArray]<;>omega);have I1:Inv X pins σ H { s with heap:=h' }:=I.kept (t':=s.toks) kp
   have I2:Inv X pins σ (upd H h'.objs.size (.tup ys)) { s with heap:=h'.push { cls := .type "tuple",data := .seq its.toArray } }:=
    I1.laid (t':=s.toks) (λb o e=>Heap.get?_push_of_some _ e) (Nat.le_refl _) (show ObjOk X.prog X.w _ _ _ (.tup ys)from⟨hz,its,r',TupN.new _ _⟩)
   exact⟨.ref h'.objs.size,_,I2,rfl,q _ (I1.hok.fresh (Nat.le_refl _))⟩
 · obtain⟨its,r',pl,hz⟩:=I.tuple hq
   exact call_tuple_same pl ⟨.ref p,H,I,rfl,q⟩
def tyV(K:PySem.W.Frag)(T:String)(x:V)(H:Hp):Prop:=match x with
 | .str _=>T = "str"
 | .int _=>T = "int"
 | .ref p=>(T = "list" /\ ∃xs,SqL K H p xs)\/(T = "tuple" /\ ∃o,K.lookup p=some o/\o.cls = .type "tuple" /\ o.dict=none) \/
  (T = "dict" /\ ((∃kvs,H p=some (.dK kvs))\/∃kvs,H p=some (.dT kvs)))\/(T = "set" /\ ∃S n,H p=some (.set S n))\/(T = "tuple" /\ ∃xs,H p=some (.tup xs))
 |_=>False
theorem Zh1{pins:List (Addr×Obj)}{σ:St}{H:Hp}{s:Shared}{T:String}{x:V}{v:Value}(I:Inv X pins σ H s)(r:RelV x v)(ty:tyV X.K T x H) :
 s.TypeIs v T/\∀a,v = .ref a->∃ob,s.heap.get? a=some ob/\ob.dict=none:=by
 cases x with
 |str z=>
  obtain⟨t,rfl⟩:=r;cases(show T = "str" from ty);exact⟨typeIs_str s z t,λ_ e=>nomatch e⟩
 |int i=>
  obtain⟨t,rfl⟩:=r;cases(show T = "int" from ty);exact⟨typeIs_int s i t,λ_ e=>nomatch e⟩
 |ref p=>
  cases r;rcases ty with⟨rfl,xs,hq⟩|⟨rfl,o,hk,hc,hd⟩|⟨rfl,hk⟩|⟨rfl,S,n,hk⟩|⟨rfl,xs,hk⟩
  · obtain⟨its,_,pl,_⟩:=I.list hq
    refine⟨pl.isList.typeIs,λa e => ?_⟩;cases e;obtain⟨o,n,e,c,hd,_⟩:=pl;exact⟨o,e,hd⟩
  · refine⟨⟨o,I.kIn p o hk,hc⟩,λa e => ?_⟩
    cases e;exact⟨o,I.kIn _ o hk,hd⟩
  · have z : ∃ o, s.heap.get? p = some o /\ o.ExactDict := by
     rcases hk with⟨kvs,hk⟩|⟨kvs,hk⟩
     · obtain⟨_,_,_,_,o,_,_,e,ex,_⟩:=I.hok p _ hk
       exact⟨o,e,ex⟩
     · obtain⟨_,_,_,_,o,_,_,e,ex,_⟩:=I.hok p _ hk
       exact⟨o,e,ex⟩
    obtain⟨o,e,ex⟩:=z;refine⟨⟨o,e,ex.1⟩,λa e2 => ?_⟩;cases e2;exact⟨o,e,ex.2.1⟩
  · obtain⟨o,_,_,_,e,ex,_⟩:=I.hok p _ hk
    refine⟨⟨o,e,ex.1⟩,λa e2 => ?_⟩;cases e2;exact⟨o,e,ex.2.1⟩
  · obtain⟨_,its,_,o,e,c,_,dn⟩:=(show ObjOk X.prog X.w H s.heap p (.tup xs)from I.hok p _ hk)
    refine⟨⟨o,e,c⟩,λa e2 => ?_⟩;cases e2;exact⟨o,e,dn⟩
 |_=>exact False.elim ty
def tBM(K:PySem.W.Frag)(T:String)(r:V->List V->Hp->VK->Prop)(to:TE)(t:TA):TE:=λσ H Q=>to σ H λx H1=>tyV K T x H1/\t σ H1 λxs H2=>r x xs H2 Q
variable{o e:Expr}{es:List Expr}{to:TE}{t:TA}{name:Str}{apos cpos:Pos}{T id:String}{r:V->List V->Hp->VK->Prop}
theorem ZiW (pa:PlainAttrs T) (slot:Slot T name id) (hty:typeOf (.builtin id)=pure (.type "method_descriptor")) (hm:MtR X id r) (ho:PE X o to) (ha:PA X (e::es) t)
 (hbase:attributeBase o name X.env (eval o X.env)=eval o X.env:=by rfl)
 (hfew:((backTo cpos (starEach (e::es) X.env)).all (λx => !x.1)&&(backToKw cpos (keywordEach [] X.env)).all (λx=>x.1.isSome)
   && decide ((e::es).length+([]:List Keyword).length+(if([]:List Keyword).isEmpty then 0 else 1)<30))=true:=by rfl)
 (hline:(apos.endLine == cpos.line)=true:=by rfl) (hs:starEach (e::es) X.env=(false,eval e X.env)::starEach es X.env:=by rfl) (hplain:(backTo cpos (starEach es X.env)).any (·.1)=false:=by rfl) :
 PE X (.Call (.Attribute o name apos) (e::es) [] cpos) (tBM X.K T r to t):=by
 intro pins s σ H Q I h;refine wpAny_Call_method_late hbase hfew hline rfl (thn (ho pins s σ H _ I h) λv s1 ⟨x,H1,I1,r1,ty,q1⟩ => ?_);obtain⟨h1,h2⟩:=Zh1 I1 r1 ty;refine⟨T,id,pa,slot,hty,h1,h2,?_⟩;have hA:=ha cpos pins s1 σ H1 _ I1 q1;rw [hs]at hA ⊢;refine Calls.callWith_builtin (by show(false||(backTo cpos (starEach es X.env)).any (·.1))=false;rw [hplain]<;>rfl) (Calls.evalArgs_plain ?_)
 exact thn hA λus s2 ⟨vs,H2,I2,r2,q2⟩=>hm pins s2 σ H2 x vs v us Q I2 r1 r2 q2
end
end L2
namespace L2
open PySem PySem.Spec PyProof.Rows
def MtM(X:Cx)(id:String)(r:V->List V->Hp->VK->Prop):Prop:=
 ∀(pins:List (Addr×Obj))(s:Shared)(σ:St)(H:Hp)(x:V)(xs:List V)(v:Value)(us:List Value)(Q:VK),Inv X pins σ H s->RelV x v->Vals xs us->r x xs H Q ->
  wpAny (model X.prog X.w) X.A (call (.builtin id) (v::us)) (EP X pins σ Q) X.xe s
theorem Vals.one:∀{x:V}{us:List Value},Vals [x] us->∃u,us=[u]/\RelV x u
 |_,_,.cons r .nil=>⟨_,rfl,r⟩
theorem Vals.rep{xs:List V}{us:List Value}(h:Vals xs us):∀k:Nat,Vals (List.replicate k xs).flatten (List.replicate k us).flatten
 |0 => .nil
 |k+1=>by
  rw [List.replicate_succ,List.replicate_succ,List.flatten_cons,List.flatten_cons];exact Vals.append h (Vals.rep h k)
theorem ZaU(its:List Value):∀(k:Nat)(acc:List Value),
 List.foldl (λx1 x2=>x1++x2) acc.toArray (List.replicate k its.toArray)=(acc++(List.replicate k its).flatten).toArray
 |0,acc=>by simp
 |k+1,acc=>by
  have e:acc.toArray++its.toArray=(acc++its).toArray:=by simp
  have e2:(acc++its)++(List.replicate k its).flatten=acc++(List.replicate (k+1) its).flatten:=by
   rw [List.replicate_succ,List.flatten_cons,List.append_assoc]
  rw [<-e2,<-ZaU its k (acc++its),<-e,List.replicate_succ,List.foldl_cons]
section
variable{X:Cx}{pins:List (Addr×Obj)}{σ:St}{H:Hp}{s:Shared}{l b:Addr}{xs ys zs:List V}
theorem Inv.lset {its its':List Value} {n:Nat} {f:Array Value->Array Value} {t':Nat} (I:Inv X pins σ H s) (hH:H l=some (.lst xs))
 (e:s.heap.get? l=some { cls := .type "list",data := .seq its.toArray n }) (hf:f its.toArray=its'.toArray) (hv:Vals ys its') (hz:ys.length<=sizeLine) :
 Inv X pins σ (upd H l (.lst ys)) { s with heap:=s.heap.update l (Obj.mapSeq f),toks:=t' }:=by
 have q:=PySem.IsL.update e f;rw [hf]at q;refine I.write (x:=l) (e:=l) (by rw [hH];exact trivial) (.inl rfl) (λb' u hb hu=>(Heap.get?_update_other s.heap (Obj.mapSeq f) (Ne.symm hb)).trans hu) ⟨_,q⟩ ?_;exact⟨hz,its',_,hv,q⟩
theorem Inv.lnew{its:List Value}{t':Nat}(I:Inv X pins σ H s)(hv:Vals ys its)(hz:ys.length<=sizeLine) :
 Inv X pins σ (upd H s.heap.objs.size (.lst ys)) { s with heap:=s.heap.push { cls := .type "list",data := .seq its.toArray },toks:=t' }:=
 I.laid (λ_ _ q=>Heap.get?_push_of_some _ q) (Nat.le_refl _) ⟨hz,its,0,hv,Heap.get?_push_size _ rfl⟩
theorem Inv.fresh(I:Inv X pins σ H s):H s.heap.objs.size=none:=I.hok.fresh (Nat.le_refl _)
theorem Inv.lstM(I:Inv X pins σ H s)(hH:H l=some (.lst xs)):xs.length<=sizeLine/\∃(its:List Value) (n:Nat),Vals xs its/\xs.length=its.length/\s.heap.get? l=some { cls := .type "list",data := .seq its.toArray n }:=by
 obtain⟨z,its,n,r,e⟩:=I.hok l _ hH;exact⟨z,its,n,r,r.length,e⟩
theorem Zep{n:Nat}(h:n<=sizeLine):Builtin.List.listTooLong n=false:=by
 unfold Builtin.List.listTooLong;exact decide_eq_false (by omega)
end
section
variable{X:Cx}
def rAppend:V->List V->Hp->VK->Prop:=λx vs H Q=>∃l xs y,x = .ref l/\vs=[y]/\H l=some (.lst xs)/\xs.length<sizeLine/\Q .non (upd H l (.lst (xs++[y])))
theorem Xu:MtM X "list.append" rAppend:=by
 intro pins s σ H x vs v us Q I rx rv h;obtain⟨l,xs,y,rfl,rfl,hH,hz,q⟩:=h;cases rx;obtain⟨u,rfl,ru⟩:=rv.one;obtain⟨z,its,n,r,hl,e⟩:=I.lstM hH;refine call_meets F.slot_list_append ⟨_,e,rfl⟩ F.entry_list_append (F.args_list_append_2 _ _) (PySem.list_append l its.toArray n u (by rw [List.size_toArray];omega)) ⟨e,?_⟩;refine⟨.non,_,I.lset (its':=its++[u]) hH e (by simp) (r.append (.cons ru .nil)) ?_,rfl,q⟩
 rw [List.length_append,List.length_singleton];omega
def ZkM:R2:=λx y H Q=>∃l b xs zs,x = .ref l/\y = .ref b/\H l=some (.lst xs)/\H b=some (.lst zs)/\xs.length+zs.length<=sizeLine/\∀p,H p=none->Q (.ref p) (upd H p (.lst (xs++zs)))
theorem Zf2{α:Type}(xs:List α)(k:Nat):(List.replicate k xs).flatten.length=k*xs.length:=by
 induction k with
 |zero=>simp
 |succ k ih=>rw [List.replicate_succ,List.flatten_cons,List.length_append,ih,Nat.succ_mul,Nat.add_comm]
end
section
variable{prog:Program}{w:World}{A:Around}{E:Value->Shared->Prop}{s:Shared}
set_option maxRecDepth 100000 in
end
section
variable{X:Cx}
end
end L2
namespace Att
open PySem PySem.W PySem.Calls PyProof.Rows
theorem Zar{P:Params}{h:Heap}:∀(ns:List Int)(vs:List Value),WellAll P h vs (ns.map WData.int)->IntsAre vs ns:=by
 intro ns
 induction ns with
 |nil=>
  intro vs w;rw [List.map_nil]at w;cases w;exact .nil
 |cons n ns ih=>
  intro vs w;rw [List.map_cons]at w;cases w with
  |cons a b=>
   cases a;exact .cons _ _ (ih _ b)
theorem ZdK {l:OpenLaw} {n:Nat} (hn:l.most=some n) {P:Params} {h:Heap} {args:List WData} {vals:List Value}
 (hpre:l.row.toRowW.claim.pre args=true) (hwl:WellAll P h vals args) :
 ∃a vs ns,vals=[Value.ref a]/\args=[WData.list (ns.map WData.int)]/\h.get? a=some { cls := .type "list",data := .seq vs.toArray }/\IntsAre vs ns/\ns.length<=n:=by
 have hsh:WShape.hasAll [] args [.list .int]=true:=(pre_splitW hpre).1;have hc:l.pre.holds [] { args:=args }=true:=(pre_splitW hpre).2;obtain⟨d,r,rfl,h1,h2⟩:=hasAllW_cons hsh;obtain rfl:=hasAllW_nil h2;obtain⟨xs,rfl,h3⟩:=hasW_list h1;obtain⟨ns,rfl⟩:=items_int h3
 have hlen:ns.length<=n:=by
  unfold OpenLaw.pre at hc
  have h4:(WTm.not (.lt (.lit (.int (n:Int))) (.len (.arg 0)))).holds [] { args:=[.list (ns.map .int)] }=true:=by
   have h4:=(holds_andW hc).1;rw [hn]at h4;exact h4
  have h5:=condW_of h4 (w_not (w_lt w_lit (w_len_list (w_arg rfl))));rw [List.length_map]at h5;refine Nat.le_of_not_lt λq => ?_
  have q':(n:Int)<((ns.length:Nat):Int):=by omega
  first
   |(rw [decide_eq_true q']at h5;exact absurd h5 (by decide))
   |(simp at h5;omega)
 cases hwl with
 |cons w1 w2=>
  cases w2;cases w1 with
  |list ho hall=>exact⟨_,_,ns,rfl,rfl,ho,Zar ns _ hall,hlen⟩
theorem ZdL(l:OpenLaw)(args:List WData):l.row.toRowW.claim.post args (.bool true) args=true:=
 postW_of (r:=l.row.toRowW) (X:=(true == true))
  (show WShape.has [] (.bool true) .bool=true by first|rfl|decide|simp [WShape.has,WShape.arms,WShape.armsAll])
  (show(WTm.eq .res (.lit (.bool true))).value [] { args:=args,res:=some (.bool true),after:=args }=some (.bool (true == true))from w_eq_bool (w_res rfl) w_lit) rfl
theorem attach_call {l:OpenLaw} {n:Nat} {q:Program} {loose:List Str} {XP:(Str->Option Value)->Heap->Prop} {YP:World->Heap->Prop} {d:DefRec}
 (hn:l.most=some n) (hdf:d.params.defaults=[])
 (call:∀(w:World)(s₀ s₁:Shared)(mg mb:Str->Option Value)(fa:Addr)(o:Obj)(pm cd doc:Value)(a:Addr)(vs:List Value)(ns:List Int),
   Ground q loose [] XP w s₀ mg mb s₁.heap->YP w s₁.heap ->
   s₁.heap.get? fa=some o->o.data = .func (docDef d.name d.params d.body d.scope pm cd doc)->s₁.heap.CodeRec cd d.name->mg d.name=some (.ref fa) ->
   s₁.heap.get? a=some { cls := .type "list",data := .seq vs.toArray }->IntsAre vs ns->ns.length<=n->s₁.gens = #[] ->
   codeAny (model l.prog w) callerA (.call (.ref fa) ⟨[.ref a],[]⟩) (λr s'=>r = .ok (.ret (.bool true))/\OldK s₁.heap s'.heap/\s'.os=s₁.os/\AllBare s'.gens) s₁) :
 WalkO q loose XP YP l.row.toRowW d [] (λf vs=>PySem.call f vs):=by
 intro w s₀ s₁ mg mb G Y fa o pm cd doc dV kV ho hd hcd hD hmg hg args vals as hpre hlay hrd hwl hlo;obtain rfl:dV = .none:=Dflts.none hD hdf;obtain rfl:kV = .none:=Dflts.noKw hD;obtain⟨a,vs,ns,rfl,rfl,hobj,hints,hlen⟩:=ZdK hn hpre hwl;refine enter_call (codeAny_mono (call w s₀ s₁ mg mb fa o pm cd doc a vs ns G Y ho (fd_plain hd) hcd hmg hobj hints hlen hg) λr s' hq => ?_);obtain⟨rfl,h2,h3,h4⟩:=hq
 exact⟨.inl ⟨.bool true,.bool true,[],rfl,λ_=>rfl,.bool true,ZdL l _,λ_=>⟨List.Pairwise.nil,λ_ hm=>(nomatch hm)⟩⟩,h2,h3,h4⟩
section
variable{prog:Program}{w:World}{A:Around}{E:Value->Shared->Prop}{s:Shared}{K:Frag}
end
end Att
namespace L2
open PySem PySem.Spec PyProof.Rows
theorem ZaV:∀{vs:List Value}{ns:List Int},IntsAre vs ns->Vals (ns.map V.int) vs
 |_,_,.nil => .nil
 |_,_,.cons n t h => .cons ⟨t,rfl⟩ (ZaV h)
def JM(H:Hp):Prop:=∀b,H b=none\/∃o xs,H b=some (.frz o (.lst xs))
theorem Zeq {P:Program} {w:World} {K:PySem.W.Frag} {mg mb:Str->Option Value} {CX:CXT} {k:Nat} {fa a:Addr} {fd:FuncData} {x:Str} {sp:Sp} {s₁:Shared} {vs:List Value} {ns:List Int}
 (KX:K.In s₁.heap) (hns:s₁.heap.Ns mainGlobals mg) (hb:s₁.heap.Ns builtinsNs mb) (hbb:∀x:Str,x ≠ "__name__" -> mb x=bootBuiltins x) (hlim:s₁.heap.NoLimit) (hg:s₁.gens = #[])
 (ha:s₁.heap.get? a=some { cls := .type "list",data := .seq vs.toArray }) (hi:IntsAre vs ns) (hl:ns.length<=sizeLine) (hr:Room k callerA)
 (F:∀base:Heap,K.In base->base.Ns mainGlobals mg->FnOk P w K mg base CX k fa fd [x] sp) (hbind:∀(s:Shared)(u:Value),BindsTo s fd ⟨[u],[]⟩ [(x,u)])
 (hsp:∀H:Hp,JM H->SqL K H a (ns.map V.int)->sp [.ref a] H (λv _=>v = .bl true) λ_ _ _=>False)
 (hCX:∀H e s',CX [] H s₁ (λ_ _ _=>False) e s'->False) :
 codeAny (model P w) callerA (.call (.ref fa) ⟨[.ref a],[]⟩) (λr s'=>r = .ok (.ret (.bool true))/\OldK s₁.heap s'.heap/\s'.os=s₁.os/\AllBare s'.gens) s₁:=by
 have rv:=ZaV hi;have lenV:=hi.length
 have core:∀H:Hp,JM H->SqL K H a (ns.map V.int)->HOk P w H s₁.heap->(∀b,H b≠none->b=a)->(H a≠none->K.lookup a=none) ->
  codeAny (model P w) callerA (.call (.ref fa) ⟨[.ref a],[]⟩) (λr s'=>r = .ok (.ret (.bool true))/\OldK s₁.heap s'.heap/\s'.os=s₁.os/\AllBare s'.gens) s₁:=by
  intro H hO hS hok hA hK;have base_of:∀{b:Addr}{o:Obj},s₁.heap.get? b=some o->H b=none->(Ve s₁.heap H).get? b=some o:=λe n=>Zeh e n
  have noA:∀{b:Addr}{o:Obj}{es:Array DictEntry}{ep:Nat},s₁.heap.get? b=some o->o.data = .dict es ep->H b=none:=λ{b o es ep} e d=>by
   cases q:H b with
   |none=>rfl
   |some u=>
    have e':b=a:=hA b (by rw [q];simp);subst e';rw [ha]at e;cases e;have d':Data.seq vs.toArray _=Data.dict es ep:=d;cases d'
  have nsK:∀{b:Addr}{m:Str->Option Value},s₁.heap.Ns b m->(Ve s₁.heap H).Ns b m:=λ{b m} ⟨o,es,ep,e,d,r⟩=>⟨o,es,ep,base_of e (noA e d),d,r⟩
  have hKb:K.In (Ve s₁.heap H):=λb o e=>base_of (KX b o e) (by
   cases q:H b with
   |none=>rfl
   |some u=>
    have e':b=a:=hA b (by rw [q];simp);subst e';rw [hK (by rw [q];simp)]at e;cases e)
  have hM:Mod K mg (Ve s₁.heap H):=⟨hKb,nsK hns,⟨mb,nsK hb,hbb⟩,let⟨mc,h1,h2⟩:=hlim;⟨mc,nsK h1,h2⟩⟩
  have e0:Env0 P w K mg (Ve s₁.heap H) callerA [] s₁ H:=⟨rfl,hM,λb o e=>ZfW e,Nat.le_of_eq (ZdB _ _),trivial,λb hb=>absurd (show b∈([]:List Addr)from hb) (by simp),hok,.of_eq hg⟩
  refine codeAny_mono ((F _ hKb (nsK hns)).run callerA [] s₁ H ⟨[.ref a],[]⟩ [.ref a] [.ref a] _ _ hr e0 (hbind s₁ (.ref a)) (.cons rfl .nil) (hsp H hO hS)) λr s' h => ?_
  cases r with
  |error e=>exact(hCX H e s' h).elim
  |ok fl=>
   cases fl with
   |next=>exact False.elim h
   |brk=>exact False.elim h
   |cont=>exact False.elim h
   |ret u=>
    obtain⟨v,H',os,bare,un,hok',r',q⟩:=h;have q':v = .bl true:=q;subst q';obtain rfl:u=Value.bool true:=r';refine⟨rfl,OldK.of_keep λb o e => ?_,os,bare⟩;cases q:H b with
    |none=>exact un.keep b o e q (by intro z;exact absurd (show b∈([]:List Addr)from z) (by simp)) (by simp)
    |some u=>
     rcases hO b with z|⟨ob,xs,z⟩
     · rw [q]at z;cases z
     · have z2:=un.frzs b ob _ z
       obtain⟨e1,_⟩:=hok b _ z;obtain⟨e2,_⟩:=hok' b _ z2;rw [e]at e1;cases e1;exact e2
 cases hk:K.lookup a with
 |some o=>
  have e:=KX a o hk;rw [ha]at e;cases e;refine core (λ_=>none) (λ_ => .inl rfl) (.inr ⟨_,vs.toArray,_,hk,rfl,rfl,rfl,by rw [List.size_toArray,lenV];exact hl,by simpa using rv⟩) (λb u z=>by have z':(none:Option HO)=some u:=z;cases z') (λb z=>absurd rfl z) λz=>absurd rfl z
 |none=>
  refine core (λb=>if b=a then some (.frz { cls := .type "list",data := .seq vs.toArray } (.lst (ns.map V.int)))else none) (λb => ?_) (.inl (.inr ⟨{ cls := .type "list",data := .seq vs.toArray },if_pos rfl⟩)) (λb u z => ?_) (λb z => ?_) λ_=>hk
  · by_cases hb:b=a
    · exact .inr ⟨_,_,if_pos hb⟩
    · exact .inl (if_neg hb)
  · by_cases hb:b=a
    · have z':=(if_pos hb).symm.trans z
      cases z';subst hb;exact⟨ha,by rw [List.length_map];exact hl,vs,_,rv,ha⟩
    · have z':=(if_neg hb).symm.trans z
      cases z'
  · by_cases hb:b=a
    · exact hb
    · exact absurd (if_neg hb) z
end L2
namespace L2
open PySem PySem.Spec PyProof.Rows
theorem walk_of {l:PySem.W.OpenLaw} {n k:Nat} {q:Program} {loose:List Str} {XP:(Str->Option Value)->Heap->Prop} {YP:World->Heap->Prop} {d:DefRec} {K:Params->PySem.W.Frag} {CX:World->CXT} {sp:World->Sp} {x:Str}
 (hn:l.most=some n) (hn2:n<=sizeLine) (hdf:d.params.defaults=[]) (hr:Room k callerA)
 (hY:∀(w:World)(h:Heap),YP w h->(K w.params).In h)
 (F:∀(w:World)(mg:Str->Option Value)(fa:Addr)(h:Heap),(K w.params).In h->h.Ns mainGlobals mg->mg d.name=some (.ref fa) ->
   ∃fd:FuncData,(∀(s:Shared)(u:Value),BindsTo s fd ⟨[u],[]⟩ [(x,u)]) /\
    ∀base:Heap,(K w.params).In base->base.Ns mainGlobals mg->FnOk l.prog w (K w.params) mg base (CX w) k fa fd [x] (sp w))
 (hsp:∀(w:World)(H:Hp)(a:Addr)(ns:List Int),ns.length<=n->JM H->SqL (K w.params) H a (ns.map V.int)->sp w [.ref a] H (λv _=>v = .bl true) λ_ _ _=>False)
 (hCX:∀(w:World)(H:Hp)(s:Shared)(e:Value)(s':Shared),CX w [] H s (λ_ _ _=>False) e s'->False) :
 PySem.W.WalkO q loose XP YP l.row.toRowW d [] (λf vs=>PySem.call f vs):=by
 refine Att.attach_call hn hdf λw s₀ s₁ mg mb fa o pm cd doc a vs ns G Y ho hd hcd hmg hobj hints hlen hg => ?_
 have KX:=hY w _ Y;obtain⟨fd,hb,hF⟩:=F w mg fa _ KX G.T.g hmg;exact Zeq KX G.T.g G.T.b G.T.builtins G.T.nolimit hg hobj hints (Nat.le_trans hlen hn2) hr hF hb (λH hO hS=>hsp w H a ns hlen hO hS) λH e s'=>hCX w H s₁ e s'
end L2
namespace L2
open PySem PySem.Spec PyProof.Rows
def JN(s:Stmt)(j:Nat):Stmt:=match s with
 | .ClassDef _ _ _ body _ _ _ _ _ _ _=>body.getD j (.Pass ⟨0,0,0,0⟩)
 |_ => .Pass ⟨0,0,0,0⟩
def defArgs(s:Stmt):Arguments:=match s with
 | .FunctionDef _ a _ _ _ _ _ _ _ _=>a
 |_=>{ posonlyargs:=[],args:=[],vararg:=none,kwonlyargs:=[],kw_defaults:=[],kwarg:=none,defaults:=[] }
def defBody(s:Stmt):List Stmt:=match s with
 | .FunctionDef _ _ b _ _ _ _ _ _ _=>b
 |_=>[]
def defScope(s:Stmt):Scope:=match s with
 | .FunctionDef _ _ _ _ _ _ sc _ _ _=>sc
 |_=>{ kind := .function,names:=[],isGenerator:=false,isCoroutine:=false }
abbrev CX0:CXT:=λ_ _ _ _ _ _=>False
abbrev E0:XK:=λ_ _ _=>False
theorem ZY{X:Cx}:U1 CX0 X E0:=λ_ _ _ _ _ _ _ h=>h.elim
structure Fun(K:PySem.W.Frag)(x qual:Str)(st:Stmt)(f:Addr)(fd:FuncData):Prop where
 ex:∃(oc:Value) (od:Option Addr) (kV doc pm:Value) (an:Option Addr) (cdv ct:Value) (osl:Array (Option Value)),
  fd=fnOf x qual (defArgs st) (defBody st) (defScope st) .none kV doc pm an cdv ct/\K.lookup f=some ⟨oc,od,.func fd,osl⟩/\codeIn K cdv qual=true
 kp:keepIn K (.ref f)=true
section
variable{P:Program}{w:World}{K:PySem.W.Frag}{mg:Str->Option Value}{base:Heap}
theorem Fun.ok {x qual:Str} {st:Stmt} {f:Addr} {fd:FuncData} {N ps:List Str} {k:Nat} {sp:Sp} (F:Fun K x qual st f fd) (S:FnScope N ps (defScope st)) (len:∀vs H Q E,sp vs H Q E->vs.length=ps.length)
 (hbody:∀(cdv:Value)(A:Around)(outer:List Env)(s:Shared)(H:Hp)(vs:List V)(Q:VK)(E:XK),Room k (A.deeper (envOfC qual (defScope st) s.heap.objs.size f cdv))->sp vs H Q E ->
   ∃t,PSs (XI CX0 P w K mg base N qual (defScope st) f cdv A outer s H E).nox (defBody st) t/\t { nx:=λ_ H'=>Q .non H',rt:=Q } (start N vs) H):FnOk P w K mg base CX0 (k+1) f fd ps sp:=by
 obtain⟨oc,od,kV,doc,pm,an,cdv,ct,osl,rfl,lk,hcd⟩:=F.ex;refine Zhf lk hcd S len λA outer s H vs Q E hr hsp => ?_
 obtain⟨t,h,q⟩:=hbody cdv A outer s H vs Q E hr hsp;exact⟨t,h.nox,q⟩
theorem Fun.binds {x qual:Str} {st:Stmt} {f:Addr} {fd:FuncData} {ps:List Str} (F:Fun K x qual st f fd)
 (h:∀(kV doc pm:Value)(an:Option Addr)(cdv ct:Value)(us:List Value),us.length=ps.length->bindArgs (fnOf x qual (defArgs st) (defBody st) (defScope st) .none kV doc pm an cdv ct) ⟨us,[]⟩=pure (ps.zip us)):Binds K fd ps []:=by
 obtain⟨oc,od,kV,doc,pm,an,cdv,ct,osl,rfl,lk,hcd⟩:=F.ex;exact .all (h kV doc pm an cdv ct)
theorem ZM {x qual:Str} {st:Stmt} {f:Addr} {oc:Value} {od an:Option Addr} {osl:Array (Option Value)} {kV doc pm cdv ct:Value} (l:K.lookup f=some ⟨oc,od,.func (fnOf x qual (defArgs st) (defBody st) (defScope st) .none kV doc pm an cdv ct),osl⟩)
 (c:codeIn K cdv qual=true) (k:keepIn K (.ref f)=true):Fun K x qual st f (fnOf x qual (defArgs st) (defBody st) (defScope st) .none kV doc pm an cdv ct):=⟨⟨oc,od,kV,doc,pm,an,cdv,ct,osl,rfl,l,c⟩,k⟩
end
section
variable{X:Cx}
theorem pv (i:Nat) {x:Str} {pos:Pos} (hN:X.N[i]? = some x:=by rfl) (hv:Vis X.env.scope x:=by first|exact Or.inl rfl|exact Or.inr (Or.inl rfl)|exact Or.inr (Or.inr rfl)) (hd:(x == ("__debug__" : Str))=false:=by decide)
 (hcd:(x == ("__classdict__" : Str))=false:=by decide):PE X (.Name x pos) (Xr i):=ZhS hN hv hd hcd
end
theorem V5{A B:Prop}(h:B):if false=true then A else B:=by
 rw [if_neg Bool.false_ne_true];exact h
theorem V6{A B:Prop}(h:A):if true=true then A else B:=by
 rw [if_pos rfl];exact h
def Same(H H':Hp):Prop:=∀b o,H b=some o->H' b=some o
theorem Same.refl(H:Hp):Same H H:=λ_ _ h=>h
theorem Same.trans{H H1 H2:Hp}(a:Same H H1)(b:Same H1 H2):Same H H2:=λc o h=>b c o (a c o h)
theorem Same.free{H H':Hp}(e:Same H H'){l:Addr}(h:H' l=Option.none):H l=Option.none:=by
 cases q:H l with
 |none=>rfl
 |some o=>
  rw [e l o q]at h;cases h
theorem Same.seq{K:PySem.W.Frag}{H H':Hp}{a:Addr}{xs:List V}(e:Same H H')(h:SqL K H a xs):SqL K H' a xs:=by
 rcases h with(h|⟨o,h⟩)|h
 · exact .inl (.inl (e _ _ h))
 · exact .inl (.inr ⟨o,e _ _ h⟩)
 · exact .inr h
end L2
namespace HT
open PySem PySem.W PySem.Calls PyProof.Rows
def de(P:Params)(x:Str)(t:Nat)(v:Value):DictEntry:=⟨PyData.keyHash P x,.str x t,v⟩
def dO(c:Value)(es:List DictEntry)(n:Nat):Obj:=⟨c,none,.dict es.toArray n,#[]⟩
def cO(vs:List Value):Obj:=⟨.type "code",none,.fields vs.toArray,#[]⟩
def fO(x q:Str)(st:Stmt)(dv kv doc pm:Value)(an:Option Addr)(cd ct:Value):Obj:=⟨.type "function",none,.func (fnOf x q (L2.defArgs st) (L2.defBody st) (L2.defScope st) dv kv doc pm an cd ct),#[]⟩
def c3(x q:Str)(t l a n r:Nat)(r2:Nat)(v w:Value)(r3 k k2:Nat):Obj:=cO [.str x t,.str q (t+1),.str "/claim/cut.py" (t+2),.int l 0,.int a 0,.int 0 0,.int 0 0,.int n 0,.ref r,.bool true,.int 181 0,.ref r2,.none,v,w,.ref r3,.int k 0,.int l 0,.str "/claim/cut.py" k2]
def f3(x q:Str)(st:Stmt)(m:Str)(t c:Nat):Obj:=fO x q st .none .none .none (.str m t) none (.ref c) .none
def x3(P:Params)(m:Str)(t a b l c d r e n:Nat):Obj:=dO (.type "dict") [de P "__module__" a (.str m t),de P "__firstlineno__" b (.int l c),de P "__static_attributes__" d (.ref r),de P "__doc__" e .none] n
def k3(x:Str)(a b n r t u:Nat):Obj:=⟨.type "type",none,.cls ⟨x,[.ref b],[.ref a,.ref b,.type "ValueError",.type "Exception",.type "BaseException",.type "object"],n,x,true,[],[],false,none,false⟩,#[some (.ref r),none,some (.str x t),some (.str x u),some (.builtin "ValueError.__new__"),some (.bool true)]⟩
def met{α:Type}(_:α):Bool:=true
noncomputable def ZiX(P:Params):BT:=
 ((((((((((BT.nil.ins 0 (boot_o_0 P)).ins 1 (boot_o_1 P)).ins 2 (boot_o_2 P)).ins 3 (boot_o_3 P)).ins 4 (boot_o_4 P)).ins 5 (boot_o_5 P)).ins 6 (boot_o_6 P)).ins 7 (boot_o_7 P)).ins 8 (boot_o_8 P)).ins 9 (boot_o_9 P)).ins 10 (boot_o_10 P)
noncomputable abbrev S0(w:World)(os:OsState):Shared:=⟨boot_heap w.params,Array.mk [],boot_drawn,boot_toks,os⟩
noncomputable abbrev S0T(w:World)(os:OsState):SharedT:=⟨ZiX w.params,11,(boot_heap w.params).life,Array.mk [],boot_drawn,boot_toks,os⟩
theorem ZkN(w:World)(os:OsState):(S0T w os).abs=S0 w os:=rfl
noncomputable def JO(thr ok:Thread->Bool)(st:SharedT->Thread->Option (SharedT×Thread))(n:Nat):SharedT->Thread->Option SharedT:=
 @Nat.rec (λ_=>SharedT->Thread->Option SharedT) (λ_ _=>none)
  (λ_ ih s t => @Bool.rec (λ_=>Option SharedT) (@Bool.rec (λ_=>Option SharedT) none (@Option.rec (SharedT×Thread) (λ_=>Option SharedT) none (λr=>ih r.1 r.2) (st s t)) (ok t)) (some s) (thr t)) n
theorem ZbE{tb:String->Option Builtin}{p:Program}{w:World}{n₀:Nat}{ann:Option Value}:∀{n:Nat}{s s':SharedT}{t:Thread},JO through (stepOk n₀ ann) (stepT (denote tb) p w) n s t=some s'->topRun tb p w n₀ ann n s.abs t=some s'.abs
 |0,_,_,_,h=>by cases h
 |n+1,s,s',t,h=>by
  replace h : @Bool.rec (λ_=>Option SharedT) (@Bool.rec (λ_=>Option SharedT) none (@Option.rec (SharedT×Thread) (λ_=>Option SharedT) none (λr=>JO through (stepOk n₀ ann) (stepT (denote tb) p w) n r.1 r.2) (stepT (denote tb) p w s t)) (stepOk n₀ ann t)) (some s) (through t)=some s':=h;unfold topRun;cases ht:through t with
  |true=>rw [ht]at h;cases h;rfl
  |false=>
   rw [ht]at h;cases hk:stepOk n₀ ann t with
   |false=>rw [hk]at h;cases h
   |true=>
    rw [hk]at h;cases hs:stepT (denote tb) p w s t with
    |none=>rw [hs]at h;cases h
    |some r=>obtain⟨s₂,t₂⟩:=r;rw [hs]at h;rw [stepT_spec hs];exact ZbE h
theorem left_of {p q:Program} {loose:List Str} {Xt:Shared->Bool} {α:Type} {Yf:Shared->α} {Ya:World->α} {N:Nat}
 (e:opening p=plainProg p.main.scope.names) (hN:Nat.ble 600 N=true) (f:∀s,fenceModules? p s=some s)
 (run:∀w:World,(λos=>(JO through (stepOk 11 (some (.ref 6))) (stepT (denote treeTable) p w) N (S0T w os) (topStub p)).map λs=>((staticsOk (importedModules p.main.body) (boot_heap w.params) s.abs.heap&&namesBound p s.abs.heap&&gensDone s.abs&&laidKept (boot_heap w.params) s.abs.heap),
   openSeen q loose (importedModules p.main.body) Xt true s.abs,Yf s.abs))=λ_=>some (true,openGood q loose,Ya w)):LeftO p q loose Xt Yf Ya N:=λw=>by
 obtain⟨⟨h,gs,d,k,os⟩,e,e'⟩:=Option.map_eq_some_iff.mp (boot_open e hN f w);obtain⟨rfl,rfl,rfl,rfl⟩:h=boot_heap w.params/\gs=Array.mk []/\d=boot_drawn/\k=boot_toks:=by simpa using e'
 obtain⟨s1,r,l⟩:=Option.map_eq_some_iff.mp (congrFun (run w) os);obtain⟨l1,l2,l3⟩:_/\_/\_:=by simpa only [Prod.mk.injEq]using l
 have r:=ZbE r;rw [ZkN]at r;have z1:((boot_heap w.params).isNs mainGlobals&&(Array.mk []:Array GenState).size == 0)=true:=by kernel_rfl
 have z2:(boot_heap w.params).objs.size=11:=rfl;have z3:(boot_heap w.params).nsMap mainGlobals "__annotations__" = some (.ref 6):=by kernel_rfl
 have t:topFrom treeTable p w N (S0 w os)=some s1.abs:=by
  unfold topFrom;dsimp only;rw [z1,z2,z3,r];show(match staticsOk (importedModules p.main.body) (boot_heap w.params) s1.abs.heap&&namesBound p s1.abs.heap&&gensDone s1.abs&&laidKept (boot_heap w.params) s1.abs.heap with|true=>_|false=>_)=_;rw [l1]
 unfold openEnds;rw [e];show(topFrom treeTable p w N _).map _=_;rw [t];exact congrArg some (Prod.ext l2 l3)
end HT
namespace L2
open PySem Builtin Builtin.Str
abbrev tx(cs:List Nat):Str:=⟨cs.toArray⟩
theorem tx_inj{a b:List Nat}:tx a=tx b ↔ a=b:=by
 constructor
 · intro h
   have h2:a.toArray=b.toArray:=congrArg Str.cps h;simpa using h2
 · rintro rfl;rfl
theorem U3(cs:List Nat):(tx cs).cps.toList=cs:=by simp [tx]
theorem Y4(cs:List Nat):(tx cs).length=cs.length:=by simp [tx,Str.length]
theorem JP(a b:List Nat):tx a++tx b=tx (a++b):=by
 show Str.mk (a.toArray++b.toArray)=Str.mk (a++b).toArray;simp
def Z3(n d:Nat):Option Int->Nat
 |none=>d
 |some v=>if v<0 then(v+(n:Int)).toNat else min v.toNat n
def cutL{α:Type}(xs:List α)(lo hi:Option Int):List α:=(xs.drop (Z3 xs.length 0 lo)).take (Z3 xs.length xs.length hi-Z3 xs.length 0 lo)
theorem Zfi(lo hi:Option Int)(n:Nat):strSliceIndices lo hi 1 n=(List.range (Z3 n n hi-Z3 n 0 lo)).map λk=>Z3 n 0 lo+k:=by
 have clip:∀v:Int,max 0 (min (if v<0 then v+(n:Int)else v) (n:Int))=(((if v<0 then(v+(n:Int)).toNat else min v.toNat n):Nat):Int):=by
  intro v
  by_cases h:v<0
  · rw [if_pos h,if_pos h];omega
  · rw [if_neg h,if_neg h];omega
 have key:∀(a b:Nat),sliceRange (a:Int) (b:Int) 1=(List.range (b-a)).map λk=>a+k:=by
  intro a b;unfold sliceRange;simp only [show(1:Int)>0 by decide,if_true]
  have e:(if(a:Int)<(b:Int)then((b:Int)-(a:Int)+1-1) / 1 else 0).toNat=b-a:=by
   split
   · rw [Int.ediv_one];omega
   · omega
  rw [e];refine List.map_congr_left λk _ => ?_
  omega
 unfold strSliceIndices;simp only [show(1:Int)>0 by decide,if_true];cases lo with
 |none=>
  cases hi with
  |none=>exact key 0 n
  |some v=>
   have:=key 0 (Z3 n n (some v));refine Eq.trans ?_ this;show sliceRange 0 (max 0 (min (if v<0 then v+(n:Int)else v) (n:Int))) 1=_;rw [clip v];rfl
 |some u=>
  cases hi with
  |none=>
   have:=key (Z3 n 0 (some u)) n;refine Eq.trans ?_ this;show sliceRange (max 0 (min (if u<0 then u+(n:Int)else u) (n:Int))) n 1=_;rw [clip u];rfl
  |some v=>
   have:=key (Z3 n 0 (some u)) (Z3 n n (some v));refine Eq.trans ?_ this;show sliceRange (max 0 (min (if u<0 then u+(n:Int)else u) (n:Int))) (max 0 (min (if v<0 then v+(n:Int)else v) (n:Int))) 1=_;rw [clip u,clip v];rfl
theorem ZbF{α:Type}(xs:List α)(l:Nat):∀k,l+k<=xs.length->((List.range k).map λj=>l+j).filterMap (λj=>xs[j]?)=(xs.drop l).take k
 |0,_=>by simp
 |k+1,h=>by
  rw [List.range_succ,List.map_append,List.filterMap_append,ZbF xs l k (by omega)];have hx:xs[l+k]? = some (xs[l+k]'(by omega)):=List.getElem?_eq_getElem (by omega);rw [List.take_add_one,List.getElem?_drop,hx];simp [hx]
theorem ZdM(n:Nat)(o:Option Int):Z3 n n o<=n:=by
 cases o with
 |none=>exact Nat.le_refl _
 |some v=>
  show(if v<0 then(v+(n:Int)).toNat else min v.toNat n)<=n
  split<;>omega
theorem Zer(cs:List Nat)(lo hi:Option Int):Txt.slice (tx cs) lo hi=tx (cutL cs lo hi):=by
 have hn:(tx cs).length=cs.length:=Y4 cs;have hb:=ZdM cs.length hi
 have hp:((strSliceIndices lo hi 1 cs.length).filterMap λj=>cs[j]?)=cutL cs lo hi:=by
  rw [Zfi];unfold cutL
  by_cases h:Z3 cs.length 0 lo<=Z3 cs.length cs.length hi
  · exact ZbF cs _ _ (by omega)
  · have e:Z3 cs.length cs.length hi-Z3 cs.length 0 lo=0:=by omega
    rw [e];simp
 unfold Txt.slice;rw [hn]
 by_cases hc:((1:Int) == 1&&(strSliceIndices lo hi 1 cs.length).length == cs.length)=true
 · rw [if_pos hc]
   have hl:(strSliceIndices lo hi 1 cs.length).length=cs.length:=by simpa using hc
   rw [Zfi,List.length_map,List.length_range]at hl;have e0:Z3 cs.length 0 lo=0\/cs.length=0:=by omega
   rw [tx_inj];unfold cutL;rw [hl];rcases e0 with e0|e0
   · rw [e0];simp
   · have:cs=[]:=List.eq_nil_of_length_eq_zero e0
     subst this;simp
 · rw [if_neg hc]
   have:((strSliceIndices lo hi 1 cs.length).filterMap λj=>(tx cs).cps[j]?)=cutL cs lo hi:=by
    rw [<-hp];simp [tx]
   rw [this]
theorem cut_from{α:Type}(xs:List α)(k:Nat):cutL xs (some (k:Int)) none=xs.drop k:=by
 unfold cutL Z3;simp only [show ¬((k:Int)<0) by omega,if_false,Int.toNat_natCast]
 by_cases h:k<=xs.length
 · rw [Nat.min_eq_left h,List.take_of_length_le (by simp)]
 · rw [Nat.min_eq_right (by omega),List.drop_eq_nil_of_le (Nat.le_refl _),List.drop_eq_nil_of_le (by omega)]
   simp
theorem cut_to{α:Type}(xs:List α)(k:Nat):cutL xs none (some (k:Int))=xs.take k:=by
 unfold cutL Z3;simp only [show ¬((k:Int)<0) by omega,if_false,Int.toNat_natCast,List.drop_zero,Nat.sub_zero]
 by_cases h:k<=xs.length
 · rw [Nat.min_eq_left h]
 · rw [Nat.min_eq_right (by omega),List.take_of_length_le (Nat.le_refl _),List.take_of_length_le (by omega)]
theorem Zes(a b:List Nat)(i:Nat):subAt (tx a) (tx b) i=((a.drop i).take b.length == b):=by
 rw [StrLaws.subAt_eq,U3,U3,Y4]
theorem take_prefix{a b:List Nat}:(a.take b.length == b)=b.isPrefixOf a:=by
 rw [Bool.eq_iff_iff,beq_iff_eq,List.isPrefixOf_iff_prefix];constructor
 · intro h;rw [<-h];exact List.take_prefix _ _
 · rintro⟨c,rfl⟩;simp
theorem ZdN(a b:List Nat):Txt.startswith (tx a) (tx b)=b.isPrefixOf a:=by
 unfold Txt.startswith;rw [Zes,Y4,Y4,List.drop_zero,take_prefix,Nat.zero_add];cases h:b.isPrefixOf a with
 |false=>simp
 |true=>
  have:=(List.isPrefixOf_iff_prefix.mp h).length_le;simp [this]
end L2
namespace L2
open PySem Builtin Builtin.Str
theorem JQ(cs:List Nat)(c i:Nat):StrLaws.At (tx cs) (tx [c]) (tx cs).length i ↔ cs[i]? = some c:=by
 have:=StrLaws.subAt_one (tx cs) c i;rw [U3]at this;exact this
def Xv(c:Nat)(cs:List Nat):Int:=match cs.findIdx? (· == c)with
 |some i=>(i:Int)
 |none => -1
theorem Zf3(cs:List Nat)(c:Nat):Txt.find (tx cs) (tx [c])=Xv c cs:=by
 unfold Xv;rcases PyProof.Rows.find_whole (tx cs) (tx [c])with⟨e,h⟩|⟨i,e,h,hk⟩
 · rw [e]
   have hn:cs.findIdx? (· == c)=none:=by
    rw [List.findIdx?_eq_none_iff];intro x hx;simp only [beq_eq_false_iff_ne]
    rintro rfl
    obtain⟨j,hj⟩:=List.getElem?_of_mem hx;exact h j ((JQ cs x j).mpr hj)
   rw [hn]
 · rw [e]
   have hi:=(JQ cs c i).mp h
   have hs:cs.findIdx? (· == c)=some i:=by
    rw [List.findIdx?_eq_some_iff_getElem];have hl:i<cs.length:=(List.getElem?_eq_some_iff.mp hi).1;refine⟨hl,by simpa using(List.getElem?_eq_some_iff.mp hi).2,λj hj => ?_⟩;have hjl:j<cs.length:=by omega
    have:=hk j hj;rw [JQ,List.getElem?_eq_getElem hjl]at this;simpa using this
   rw [hs]
def Vh(sep:List Nat):List (List Nat)->List Nat
 | []=>[]
 | [x]=>x
 |x::y::r=>x++sep++Vh sep (y::r)
theorem JR(sep:List Nat):∀l:List (List Nat),Str.join (tx sep) (l.map tx)=tx (Vh sep l)
 | []=>rfl
 | [x]=>rfl
 |x::y::r=>by
  show tx x++tx sep++Str.join (tx sep) ((y::r).map tx)=_;rw [JR sep (y::r),JP,JP];rfl
theorem JS:∀l:List (List Nat),Vh [] l=l.flatten
 | []=>rfl
 | [x]=>by simp [Vh]
 |x::y::r=>by
  show x++[]++Vh [] (y::r)=_;rw [JS (y::r)];simp
end L2
namespace L2
open PySem PySem.Spec PyProof.Rows
section
variable{prog:Program}{w:World}{A:Around}{R:Result->Shared->Prop}{s:Shared}
theorem Zbd {elt target iter:Expr} {ifs:List Expr} {scope:Scope} {pos:Pos} {it acc:Value} {env:Env} (I:Nat->Shared->Prop)
 (turn:∀n s,I n s->wpAny (model prog w) A (pyNext it) (λr s₁=>match r with
   |none=>R (.ok .next) s₁
   |some v=>wpAny (model prog w) A (letOwnedTupleGo target it v) (λ_ s₀=>wpAny (model prog w) A (assign target env v) (λ_ s₂=>
    wpAny (model prog w) A (forIn ifs true λc r=>if r=true then do let ok <-isTrue c env (eval c env);pure (ForInStep.yield ok)else pure (ForInStep.yield r)) (λok s₃=>
     if ok=true then wpAny (model prog w) A (eval elt env) (λx s₄=>
      wpAny (model prog w) A (call (.builtin "list.append") [acc,x]) (λ_ s₅=>∃m,m<n/\I m s₅) (notedBy (model prog w) A env λe s'=>R (.error e) s') s₄) (notedBy (model prog w) A env λe s'=>R (.error e) s') s₃
     else ∃m,m<n/\I m s₃) (notedBy (model prog w) A env λe s'=>R (.error e) s') s₂) (notedBy (model prog w) A env λe s'=>R (.error e) s') s₀) (notedBy (model prog w) A env λe s'=>R (.error e) s') s₁) (notedBy (model prog w) A env λe s'=>R (.error e) s') s)
 (n:Nat) (h:I n s) :
 codeAny (model prog w) A (.compLoop (.ListComp elt [⟨target,iter,ifs,0⟩] scope pos) 0 it acc env) R s:=by
 refine codeAny_loop rfl I (λn s hI => ?_) n h;show wpAny _ A ((compTurn (.ListComp elt [⟨target,iter,ifs,0⟩] scope pos) 0 it acc env).onRaise (λx=>do noteFrame x env;theTreesLotGoes x)) _ _ s;refine wpAny_noted ?_;rw [compTurn_list];refine wpAny_bind (wpAny_standAt (wpAny_bind (wpAny_mono (turn n s hI) (λr s₁ h₁ => ?_) λ_ _ h'=>h')));cases r with
 |none=>exact wpAny_pure h₁
 |some v=>
  refine wpAny_bind (wpAny_mono h₁ (λ_ s₀ h₀ => ?_) λ_ _ h'=>h');refine wpAny_bind (wpAny_mono h₀ (λ_ s₂ h₂=>wpAny_bind (wpAny_mono h₂ (λok s₃ h₃ => ?_) λ_ _ h'=>h')) λ_ _ h'=>h');cases ok with
  |false=>exact wpAny_pure ⟨rfl,h₃⟩
  |true=>
   exact wpAny_bind (wpAny_bind (wpAny_mono h₃ (λx s₄ h₄=>wpAny_bind (wpAny_mono h₄ (λ_ s₅ h₅=>wpAny_pure (wpAny_pure ⟨rfl,h₅⟩)) λ_ _ h'=>h')) λ_ _ h'=>h'))
end
def YW(cells:List (Str×Addr)):List (Str×NameKind)->List (Str×Addr)->List (Str×Addr)
 | [],acc=>acc
 |(n,k)::r,acc=>YW cells r (if(k == .free)=true then(n,(cells.lookup n).getD 0)::acc else acc)
theorem JT{env:Env}:∀(names:List (Str×NameKind))(acc:List (Str×Addr)),(∀x∈names,x.2 = .free->∃c,env.cells.lookup x.1=some c) ->
 (forIn names acc λ(x:Str×NameKind) (r:List (Str×Addr))=>match x with
   |(name,kind)=>if(kind == .free)=true then(do let c <-cellOf env name;pure (ForInStep.yield ((name,c)::r)))else pure (ForInStep.yield r))=(pure (YW env.cells names acc):Sem _)
 | [],acc,_=>rfl
 |(n,k)::r,acc,h=>by
  rw [List.forIn_cons];show((if(k == .free)=true then(do let c <-cellOf env n;pure (ForInStep.yield ((n,c)::acc)))else pure (ForInStep.yield acc)) >>= _)=_
  by_cases hk:(k == .free)=true
  · obtain⟨c,hc⟩:=h (n,k) List.mem_cons_self (by simpa using hk)
    have e:cellOf env n=pure c:=by
     unfold cellOf;rw [hc]
    rw [if_pos hk,e];show(forIn r ((n,c)::acc) _:Sem _)=_;rw [JT r _ λx hx=>h x (List.mem_cons_of_mem _ hx)]
    conv=>rhs;unfold YW
    rw [if_pos hk,hc];rfl
  · rw [if_neg hk]
    show(forIn r acc _:Sem _)=_;rw [JT r _ λx hx=>h x (List.mem_cons_of_mem _ hx)]
    conv=>rhs;unfold YW
    rw [if_neg hk]
theorem Zac{scope:Scope}{env:Env}(h:∀x∈scope.names,x.2 = .free->∃c,env.cells.lookup x.1=some c):closureFor scope env=pure (YW env.cells scope.names []):=by
 have e:=JT (env:=env) scope.names [] h;unfold closureFor;show((forIn scope.names ([]:List (Str×Addr)) _:Sem _) >>= λcs=>pure cs)=_
 have e2:(forIn scope.names ([]:List (Str×Addr)) λ(x:Str×NameKind) (r:List (Str×Addr))=>match x with
  |(name,kind)=>if(kind == .free)=true then(do let c <-cellOf env name;pure (ForInStep.yield ((name,c)::r)))else pure (ForInStep.yield r))=(pure (YW env.cells scope.names []):Sem _):=e
 rw [e2];rfl
theorem Vi{cells:List (Str×Addr)}{x:Str}{c:Addr}:∀(names:List (Str×NameKind))(acc:List (Str×Addr)),(∀y∈names,y.2 = .free->∃c,cells.lookup y.1=some c) ->
 (∀c,acc.lookup x=some c->cells.lookup x=some c)->(YW cells names acc).lookup x=some c->cells.lookup x=some c
 | [],acc,_,ha,h=>ha c h
 |(n,k)::r,acc,hf,ha,h=>by
  unfold YW at h;refine Vi r _ (λy hy=>hf y (List.mem_cons_of_mem _ hy)) (λc' h' => ?_) h
  by_cases hk:(k == .free)=true
  · rw [if_pos hk]at h'
    obtain⟨c0,hc0⟩:=hf (n,k) List.mem_cons_self (by simpa using hk);rw [List.lookup_cons]at h';cases hx:x == n with
    |true=>
     rw [hx]at h';have e:x=n:=eq_of_beq hx;subst e;have h'':(cells.lookup x).getD 0=c':=Option.some.inj h';have hc0':cells.lookup x=some c0:=hc0;rw [hc0']at h'' ⊢;exact congrArg some h''
    |false=>
     rw [hx]at h';exact ha c' h'
  · rw [if_neg hk]at h'
    exact ha c' h'
theorem JU{cells:List (Str×Addr)}{x:Str}:∀(names:List (Str×NameKind))(acc:List (Str×Addr)),((x,NameKind.free)∈names\/∃c,acc.lookup x=some c)->∃c,(YW cells names acc).lookup x=some c
 | [],acc,h=>by
  rcases h with h|h
  · cases h
  · exact h
 |(n,k)::r,acc,h=>by
  unfold YW;refine JU r _ ?_;rcases h with h|⟨c,h⟩
  · rcases List.mem_cons.mp h with e|e
    · cases e
      refine .inr ⟨(cells.lookup x).getD 0,?_⟩;rw [if_pos (by rfl),List.lookup_cons];simp
    · exact .inl e
  · refine .inr ?_
    by_cases hk:(k == .free)=true
    · rw [if_pos hk,List.lookup_cons]
      cases hx:x == n with
      |true=>exact⟨_,rfl⟩
      |false=>exact⟨c,h⟩
    · rw [if_neg hk]
      exact⟨c,h⟩
structure CompSc(X:Cx)(scope:Scope)(tn cn:List Str)(js:List Nat):Prop where
 kind:scope.kind = .function
 nocell:∀y∈scope.names,y.2 ≠ .cell
 names:∀y∈scope.names,y.2 = .local->scope.names.lookup y.1=some .local
 free:∀y∈scope.names,y.2 = .free->X.env.kindOf y.1=some .cell\/X.env.kindOf y.1=some .free
 cap:∀(k:Nat)(x:Str),cn[k]? = some x->∃j,js[k]? = some j/\X.N[j]? = some x/\(X.env.kindOf x=some .cell\/X.env.kindOf x=some .free)/\scope.names.lookup x=some .free
 len:cn.length=js.length
def QO(onames:List (Str×NameKind))(oN:List Str)(names:List (Str×NameKind))(cn:List Str)(js:List Nat):Bool:=
 names.all (λy => !(y.2 == .cell))&&names.all (λy => !(y.2 == .local)||(names.lookup y.1 == some .local)) &&
 names.all (λy => !(y.2 == .free)||(onames.lookup y.1 == some .cell||onames.lookup y.1 == some .free)) &&
 ((cn.zip js).all λp=>oN[p.2]? == some p.1&&(onames.lookup p.1 == some .cell||onames.lookup p.1 == some .free)&&names.lookup p.1 == some .free)&&(cn.length == js.length)
theorem CompSc.mk'{X:Cx}{scope:Scope}{tn cn:List Str}{js:List Nat}{osc:Scope}{oN:List Str}(hk:scope.kind = .function)(ho:X.env.scope=osc)(hN:X.N=oN)(h:QO osc.names oN scope.names cn js=true):CompSc X scope tn cn js:=by
 unfold QO at h;simp only [Bool.and_eq_true]at h;obtain⟨⟨⟨⟨h1,h2⟩,h3⟩,h4⟩,h5⟩:=h;rw [List.all_eq_true]at h1 h2 h3 h4;have hlen:cn.length=js.length:=by simpa using h5
 refine⟨hk,λy hy => ?_,λy hy e => ?_,λy hy e => ?_,λk x e => ?_,hlen⟩
 · have:=h1 y hy
   simpa using this
 · have:=h2 y hy
   simpa [e]using this
 · have:=h3 y hy
   unfold Env.kindOf;rw [ho];simpa [e]using this
 · have hkl:k<cn.length:=(List.getElem?_eq_some_iff.mp e).1
   have hkj:k<js.length:=by omega
   refine⟨js[k],by simp [hkj],?_⟩
   have hz:(x,js[k])∈cn.zip js:=by
    have e2:(cn.zip js)[k]? = some (x,js[k]):=by
     rw [List.getElem?_zip_eq_some];exact⟨e,by simp [hkj]⟩
    exact List.mem_of_getElem? e2
   have:=h4 _ hz;unfold Env.kindOf;rw [ho,hN];simp only [Bool.and_eq_true,Bool.or_eq_true,beq_iff_eq]at this;exact⟨this.1.1,this.1.2,this.2⟩
def U4(σ:St)(js:List Nat):St:=js.map λj=>(σ[j]?).getD none
def blk(n:Nat)(σ:St)(js:List Nat):St:=List.replicate n none++U4 σ js
def Uz(X:Cx)(scope:Scope)(N':List Str)(C:Addr)(s₂:Shared)(H₂:Hp)(fp:List Addr)(xe:Value->Shared->Prop):Cx:=
 { X with N:=N',s₀:=s₂,H₀:=H₂,env:=compEnvC scope (YW X.env.cells scope.names []) C X.env,outer:=X.stack,ex:=fp,fn:=λ_=>false,pn:=[],xe:=xe }
section
variable{X:Cx}{pins:List (Addr×Obj)}{σ:St}{H₂:Hp}{s₂:Shared}{scope:Scope}{tn cn:List Str}{js:List Nat}
theorem CompSc.clos(S:CompSc X scope tn cn js)(ok:X.Ok):∀y∈scope.names,y.2 = .free->∃c,X.env.cells.lookup y.1=some c:=λy hy e=>ok.has y.1 (S.free y hy e)
theorem JV{env:Env}:∀{names:List (Str×NameKind)}{x:Str}{k:NameKind},(names.map λ(n,k)=>if(k == NameKind.free&&env.scope.kind == .function&&env.kindOf n == some .cell)then(n,NameKind.cell)else(n,k)).lookup x=some k ->
 (k = .cell\/k = .free)->(∀y∈names,y.2 ≠ .cell)->(x,NameKind.free)∈names
 | [],_,_,h,_,_=>by simp at h
 |(n,k0)::r,x,k,h,hk,hc=>by
  have ih := @JV env r x k;have h:List.lookup x ((if(k0 == NameKind.free&&env.scope.kind == .function&&env.kindOf n == some .cell)=true then(n,NameKind.cell)else(n,k0))::_)=_:=h
  by_cases hb:(k0 == NameKind.free&&env.scope.kind == .function&&env.kindOf n == some .cell)=true
  · rw [if_pos hb,List.lookup_cons]at h
    have e0:k0 = .free:=by
     simp only [Bool.and_eq_true]at hb;simpa using hb.1.1
    cases hx:x == n with
    |true=>
     have e:x=n:=eq_of_beq hx;subst e;subst e0;exact List.mem_cons_self
    |false=>
     rw [hx]at h;exact List.mem_cons_of_mem _ (ih h hk λy hy=>hc y (List.mem_cons_of_mem _ hy))
  · rw [if_neg hb,List.lookup_cons]at h
    cases hx:x == n with
    |true=>
     rw [hx]at h;have e:x=n:=eq_of_beq hx;have e0:k0=k:=Option.some.inj h;subst e;subst e0;rcases hk with hk|hk
     · exact absurd hk (hc (x,k0) List.mem_cons_self)
     · subst hk
       exact List.mem_cons_self
    |false=>
     rw [hx]at h;exact List.mem_cons_of_mem _ (ih h hk λy hy=>hc y (List.mem_cons_of_mem _ hy))
theorem Zaf{env:Env}:∀{names:List (Str×NameKind)}{x:Str},names.lookup x=some .free ->
 (names.map λ(n,k)=>if(k == NameKind.free&&env.scope.kind == .function&&env.kindOf n == some .cell)then(n,NameKind.cell)else(n,k)).lookup x=some .cell \/
 (names.map λ(n,k)=>if(k == NameKind.free&&env.scope.kind == .function&&env.kindOf n == some .cell)then(n,NameKind.cell)else(n,k)).lookup x=some .free
 | [],_,h=>by simp at h
 |(n,k0)::r,x,h=>by
  have ih := @Zaf env r x
  show List.lookup x ((if(k0 == NameKind.free&&env.scope.kind == .function&&env.kindOf n == some .cell)=true then(n,NameKind.cell)else(n,k0))::_)=_ \/
   List.lookup x ((if(k0 == NameKind.free&&env.scope.kind == .function&&env.kindOf n == some .cell)=true then(n,NameKind.cell)else(n,k0))::_)=_
  cases hx:x == n with
  |true=>
   simp only [List.lookup_cons,hx]at h;cases h
   by_cases hb:(NameKind.free == NameKind.free&&env.scope.kind == .function&&env.kindOf n == some .cell)=true
   · rw [if_pos hb];simp [List.lookup_cons,hx]
   · rw [if_neg hb];simp [List.lookup_cons,hx]
  |false=>
   simp only [List.lookup_cons,hx]at h
   by_cases hb:(k0 == NameKind.free&&env.scope.kind == .function&&env.kindOf n == some .cell)=true
   · rw [if_pos hb];simp only [List.lookup_cons,hx];exact ih h
   · rw [if_neg hb];simp only [List.lookup_cons,hx];exact ih h
theorem Zf4{C:Addr}{fp:List Addr}{xe:Value->Shared->Prop}(S:CompSc X scope tn cn js)(I:Inv X pins σ H₂ s₂)(hC:s₂.heap.objs.size<=C)(hf:∀b∈fp,Xi X pins H₂ b)(ho:∀b∈fp,∃o,s₂.heap.get? b=some o/\∀v,o.data ≠ .cell v) :
 (Uz X scope (tn++cn) C s₂ H₂ fp xe).Ok where
 mod:=I.ok.mod
 kind:=S.kind
 glob:=I.ok.glob
 blt:=I.ok.blt
 above:=hC
 inj:=λx y c h1 h2=>I.ok.inj x y c (Vi _ [] (S.clos I.ok) (λ_ z=>by cases z) h1) (Vi _ [] (S.clos I.ok) (λ_ z=>by cases z) h2)
 has:=λx hx=>by
  refine JU _ _ (.inl ?_);rcases hx with hx|hx
  · exact JV (env:=X.env) (k:=.cell) hx (Or.inl (Eq.refl NameKind.cell)) S.nocell
  · exact JV (env:=X.env) (k:=.free) hx (Or.inr (Eq.refl NameKind.free)) S.nocell
 cab:=λx c h _=>by cases h
 hd:=I.ok.hd
 frames:=I.ok.frames
 stk := .inl rfl
 exf:=λb hb=>by
  obtain⟨o,e,_⟩:=ho b hb;obtain⟨_,_,_,_,f4,_⟩:=hf b hb;exact⟨Nat.ne_of_lt (Nat.lt_of_lt_of_le (Heap.lt_size e) hC),λx c h=>f4 x c (Vi _ [] (S.clos I.ok) (λ_ z=>by cases z) h)⟩
 bs:=I.bs
 bsz:=Nat.le_trans I.ok.bsz I.sz
 noex:=λb o e hb=>by
  obtain⟨_,_,_,f3,_,_⟩:=hf b hb;rcases f3 with z|z
  · exact I.ok.noex b o e z
  · exact absurd (Nat.lt_of_lt_of_le (Heap.lt_size (I.ok.bs b o e).1) z) (Nat.lt_irrefl _)
 exfs:=λb hb z=>by
  obtain⟨_,f1,f2,_,_,_⟩:=hf b hb;exact(List.mem_cons.mp (I.stkSub b z)).elim f1 f2
 funs:=I.stack
 frf:=I.stkFree
theorem ZaW {C:Addr} {fp:List Addr} {s:Shared} {H:Hp} {m:Str->Option Value} (S:CompSc X scope tn cn js) (I:Inv X pins σ H₂ s₂) (hf:∀b∈fp,Xi X pins H₂ b)
 (u:Un (frs X.stack) fp H₂ H s₂.heap s.heap) :
 ∀(i:Nat)(x:Str)(v:V),(tn++cn)[i]? = some x->(blk tn.length σ js)[i]? = some (some v)->∃z,RelV v z/\Zka (compEnvC scope (YW X.env.cells scope.names []) C X.env) s.heap m x z:=by
 intro i x v e1 e2;unfold blk at e2
 by_cases hi:i<tn.length
 · rw [List.getElem?_append_left (by simpa using hi),List.getElem?_replicate,if_pos hi]at e2
   cases e2
 · have hi':tn.length<=i:=by omega
   rw [List.getElem?_append_right hi']at e1;rw [List.getElem?_append_right (by simpa using hi'),List.length_replicate]at e2;obtain⟨j,hj,hN,hk,hm⟩:=S.cap _ _ e1;unfold U4 at e2;rw [List.getElem?_map,hj]at e2;have e3:(σ[j]?).getD none=some v:=Option.some.inj e2
   have e4:σ[j]? = some (some v):=by
    cases q:σ[j]? with
    |none=>rw [q]at e3;cases e3
    |some z=>rw [q]at e3;exact congrArg some e3
   obtain⟨m0,_,hl⟩:=I.loc
   have hv:Vis X.env.scope x:=by
    rcases hk with hk|hk
    · exact .inr (.inl hk)
    · exact .inr (.inr hk)
   obtain⟨z,rz,l⟩:=hl j x v hN e4 hv;refine⟨z,rz,?_⟩
   obtain⟨c,hc,ob,ho,hd⟩:∃c,X.env.cells.lookup x=some c/\s₂.heap.IsCell c (some z):=by
    rcases l with⟨k,_⟩|⟨_,c,hc,q⟩
    · rcases hk with hk|hk
      · rw [hk]at k;cases k
      · rw [hk]at k;cases k
    · exact⟨c,hc,q⟩
   obtain⟨c',hc'⟩:=JU (cells:=X.env.cells) (x:=x) scope.names [] (.inl (PySem.mem_of_lookup hm))
   have ec:c'=c:=by
    have:=Vi _ [] (S.clos I.ok) (λ_ z=>by cases z) hc';rw [hc]at this;exact(Option.some.inj this).symm
   subst ec;have nf:c'∉fp:=λhb=>(hf c' hb).2.2.2.2.1 x c' hc rfl
   obtain⟨sl,q⟩:=u.any ho (I.freeC x c' hc) nf;exact .inr ⟨Zaf hm,c',hc',⟨_,q,hd⟩⟩
theorem blk_len(S:CompSc X scope tn cn js):(blk tn.length σ js).length=(tn++cn).length:=by
 unfold blk U4;rw [List.length_append,List.length_append,List.length_replicate,List.length_map,S.len]
theorem Zcf {C:Addr} {fp:List Addr} {xe:Value->Shared->Prop} {s:Shared} {H:Hp} {σ':St} {pins':List (Addr×Obj)} (S:CompSc X scope tn cn js) (I:Inv X pins σ H₂ s₂) (hf:∀b∈fp,Xi X pins H₂ b)
 (I':Inv (Uz X scope (tn++cn) C s₂ H₂ fp xe) pins' σ' H s):Inv (Uz X scope (tn++cn) C s₂ H₂ fp xe) pins' (blk tn.length σ js) H s:=by
 obtain⟨m,hn,_⟩:=id I'.loc;exact⟨I'.ok,I'.os,I'.bare,I'.base,⟨m,hn,λi x v e1 e2 _=>ZaW S I hf I'.base i x v e1 e2⟩,I'.cell,I'.free,I'.freeC,I'.pin,I'.hok,blk_len S⟩
theorem Zcg {C D:Addr} {fp:List Addr} {xe:Value->Shared->Prop} {h:Heap} {tk:Nat} {ob:Obj} {m:Str->Option Value} (S:CompSc X scope tn cn js) (I:Inv X pins σ H₂ s₂) (hC:s₂.heap.objs.size<=C) (hD:s₂.heap.objs.size<=D) (hDC:D≠C)
 (hf:∀b∈fp,Xi X pins H₂ b) (ho:∀b∈fp,∃o,s₂.heap.get? b=some o/\∀v,o.data ≠ .cell v) (k:∀b o,s₂.heap.get? b=some o->h.get? b=some o) (hn:h.Ns C m) (hob:h.get? D=some ob) (hcell:∀v,ob.data ≠ .cell v) :
 Inv (Uz X scope (tn++cn) C s₂ H₂ fp xe) [(D,ob)] (blk tn.length σ js) H₂ { s₂ with heap:=h,toks:=tk }:=by
 have ok:=Zf4 (xe:=xe) S I hC hf ho;have u:Un (frs X.stack) fp H₂ H₂ s₂.heap h:=Un.kept k;refine⟨ok,rfl,I.bare,u,⟨m,hn,λi x v e1 e2 _=>ZaW (s:={ s₂ with heap:=h,toks:=tk }) S I hf u i x v e1 e2⟩,λx c e => ?_,I.hok.fresh hC,λx c e => ?_,λp hp => ?_,I.hok.kept k,blk_len S⟩
 · obtain⟨v,o,q,d⟩:=I.cell x c (Vi _ [] (S.clos I.ok) (λ_ z=>by cases z) e)
   exact⟨v,o,k c o q,d⟩
 · exact I.freeC x c (Vi _ [] (S.clos I.ok) (λ_ z=>by cases z) e)
 · have e : p = (D, ob) := by
    have:p∈([]:List (Addr×Obj))++[(D,ob)]:=hp;simpa using this
   subst e;refine⟨hob,I.hok.fresh hD,hDC,λz => ?_,hcell⟩;have z:D∈frs X.stack:=z;rcases List.mem_cons.mp (I.stkSub D z)with e|e
   · exact absurd (Nat.lt_of_lt_of_le I.lt (by rw [<-e];exact hD)) (Nat.lt_irrefl _)
   · exact I.nofs hD e
theorem ZbG {C D:Addr} {fp:List Addr} {xe:Value->Shared->Prop} {s:Shared} {H:Hp} {σ':St} {ys:List V} {its:List Value} {n:Nat} {h':Heap} (S:CompSc X scope tn cn js) (I:Inv X pins σ H₂ s₂) (hC:s₂.heap.objs.size<=C) (hD:s₂.heap.objs.size<=D) (hDC:D≠C)
 (hf:∀b∈fp,Xi X pins H₂ b) (I':Inv (Uz X scope (tn++cn) C s₂ H₂ fp xe) [(D,{ cls := .type "list",data := .seq its.toArray n })] σ' H s) (hv:Vals ys its) (hz:ys.length<=sizeLine) (hs:Heap.SameBut C s.heap h') :
 Inv X pins σ (upd H D (.lst ys)) { s with heap:=h' }:=by
 have pd:=I'.pin (D,{ cls := .type "list",data := .seq its.toArray n }) (List.mem_append_right _ List.mem_cons_self);have pd1:s.heap.get? D=some { cls := .type "list",data := .seq its.toArray n }:=pd.1;have pd2:H D=none:=pd.2.1;have hD':h'.get? D=some { cls := .type "list",data := .seq its.toArray n }:=(hs.2 D hDC).trans pd1;have hCf:H C=none:=I'.free;have old:∀b o,s₂.heap.get? b=some o->b≠C/\b≠D:=λb o e=>⟨Nat.ne_of_lt (Nat.lt_of_lt_of_le (Heap.lt_size e) hC),Nat.ne_of_lt (Nat.lt_of_lt_of_le (Heap.lt_size e) hD)⟩
 have u:=I'.base;have u:Un (frs X.stack) fp H₂ H s₂.heap s.heap:=u;refine I.call' (s':={ s with heap:=h' }) (ch:=fp) (H':=upd H D (.lst ys)) I'.os ⟨λb o e n hb hx => ?_,λb o e n hb hx => ?_,λb o e n hx => ?_,λb o e hx => ?_,λb xs e => ?_,λb o xs e => ?_,λb ps e => ?_⟩ (λb o e => ?_) I'.bare (λb hb => ?_)
 · exact(hs.2 b (old b o e).1).trans (u.keep b o e n hb hx)
 · obtain⟨sl,q⟩:=u.slot b o e n hb hx
   exact⟨sl,(hs.2 b (old b o e).1).trans q⟩
 · rw [Zs (old b o e).2]
   exact u.free b o e n hx
 · obtain⟨o',q⟩:=u.there b o e hx
   exact⟨o',(hs.2 b (old b o e).1).trans q⟩
 · have q:=u.tups b xs e
   rw [Zs (YU q pd2)];exact q
 · have q:=u.frzs b o xs e
   rw [Zs (YU q pd2)];exact q
 · obtain⟨more,q⟩:=u.tbls b ps e
   exact⟨more,by rw [Zs (YU q pd2)];exact q⟩
 · by_cases hb:b=D
   · subst hb
     rw [ZL]at e;cases e;exact⟨hz,its,n,hv,hD'⟩
   · rw [Zs hb]at e
     refine(I'.hok b o e).stay (λc v hc q=>(hs.2 c ?_).trans q) (λc q=>by rw [Zs (YU q pd2)];exact q) λc xs q=>by rw [Zs (YU q pd2)];exact q
     rintro rfl
     rcases hc with rfl|hc
     · rw [hCf]at e;cases e
     · rw [hCf]at hc;cases hc
 · obtain⟨f0,f1,f2,f3,f4,f5⟩:=hf b hb
   exact⟨f3,f1,f4,f5⟩
end
def PTs(X:Cx)(ifs:List Expr)(t:TT):Prop:=
 ∀(pins:List (Addr×Obj))(s:Shared)(σ:St)(H:Hp)(Q:Bool->Hp->Prop),Inv X pins σ H s->t σ H Q ->
  wpAny (model X.prog X.w) X.A (forIn ifs true λc r=>if r=true then do let ok <-isTrue c X.env (eval c X.env);pure (ForInStep.yield ok)else pure (ForInStep.yield r)) (TP X pins σ Q) X.xe s
def tYes:TT:=λ_ H Q=>Q true H
theorem X1{X:Cx}:PTs X [] tYes:=λ_ _ _ H _ I h=>wpAny_tests_nil ⟨H,I,h⟩
theorem ZcV{X:Cx}{c:Expr}{t:TT}(h:PT X c t):PTs X [c] t:=λpins s σ H Q I q=>wpAny_tests_one (h pins s σ H Q I q)
def QP(wi:TI)(g:TG)(tt:TT)(te:TE)(n:Nat)(js:List Nat):TE:=λσ H Q=>wi σ H λJ H1=>
 ∃W:Nat->Nat->List V->Hp->Prop,(∃m,W 0 m [] H1)/\∀i m ys H,W i m ys H ->
  (J.stop i H/\∀p,H p=none->Q (.ref p) (upd H p (.lst ys))) \/
  (J.go i H/\∀x H',J.yld i H x H'->g x (blk n σ js) H' λσ2 H2=>tt σ2 H2 λb H3=>
    if b=true then te σ2 H3 λy H4=>ys.length<sizeLine/\∃m',m'<m/\W (i+1) m' (ys++[y]) H4 else ∃m',m'<m/\W (i+1) m' ys H3)
section
variable{X:Cx}{tg iter elt:Expr}{ifs:List Expr}{scope:Scope}{pos:Pos}{wi:TI}{g:TG}{tt:TT}{te:TE}{tn cn:List Str}{js:List Nat}
abbrev Xw(X:Cx)(scope:Scope)(N':List Str)(C:Addr)(s₂:Shared)(H₂:Hp)(fp:List Addr):Cx:=Uz X scope N' C s₂ H₂ fp λ_ _=>False
theorem UA{α:Type}{M:Model}{A:Around}{m:Sem α}{Q:α->Shared->Prop}{E:Value->Shared->Prop}{s:Shared}(h:wpAny M A m Q (λ_ _=>False) s):wpAny M A m Q E s:=wpAny_mono h (λ_ _ q=>q) λ_ _ z=>z.elim
theorem Zau {pins:List (Addr×Obj)} {σ:St} {H₂:Hp} {s₂:Shared} {it:Addr} {fp:List Addr} {tnx:Nat->Heap->Prop} {J:It} {E:Value->Shared->Prop} {RR:Value->Addr->Result->Shared->Prop} {W:Nat->Nat->List V->Hp->Prop} {m0:Nat}
 (hc:X.calm=true) (S:CompSc X scope tn cn js)
 (hg:∀C s₂ H₂ fp,PG (Xw X scope (tn++cn) C s₂ H₂ fp) tg g) (ht:∀C s₂ H₂ fp,PTs (Xw X scope (tn++cn) C s₂ H₂ fp) ifs tt) (he:∀C s₂ H₂ fp,PE (Xw X scope (tn++cn) C s₂ H₂ fp) elt te)
 (I2:Inv X pins σ H₂ s₂) (T:Turn X.prog X.w X.K tg J fp it tnx) (st2:tnx 0 s₂.heap) (f2:∀b∈fp,Xi X pins H₂ b) (w0:W 0 m0 [] H₂)
 (turn:∀i m ys H,W i m ys H->(J.stop i H/\∀C D s its n σ',s₂.heap.objs.size<=C->s₂.heap.objs.size<=D->D≠C->Vals ys its->ys.length<=sizeLine ->
   Inv (Xw X scope (tn++cn) C s₂ H₂ fp) [(D,{ cls := .type "list",data := .seq its.toArray n })] σ' H s->RR (.ref D) C (.ok .next) s) \/
   (J.go i H/\∀x H',J.yld i H x H'->g x (blk tn.length σ js) H' λσ2 H2=>tt σ2 H2 λb H3=>
     if b=true then te σ2 H3 λy H4=>ys.length<sizeLine/\∃m',m'<m/\W (i+1) m' (ys++[y]) H4 else ∃m',m'<m/\W (i+1) m' ys H3)) :
 wpAny (model X.prog X.w) X.A (newList []) (λacc s₃=>wpAny (model X.prog X.w) X.A (newFunctionEnv scope X.env.globals (YW X.env.cells scope.names []) [] X.env.qual none .none (some X.env)) (λcenv s₄=>
  codeAny (model X.prog X.w) X.A (.compStart (.ListComp elt [⟨tg,iter,ifs,0⟩] scope pos) 0 (.ref it) acc { cenv with scope:=relabel scope X.env }) (RR acc cenv.locals) s₄) E s₃) E s₂:=by
 refine wpAny_newObj_type (wpAny_newFunctionEnv S.nocell (by intro y hy;simp at hy) (λh₁ hns₁ hsb₁ => ?_) S.kind);dsimp only at hns₁ hsb₁ ⊢;generalize hH2:s₂.heap.push { cls := .type "list",dict:=none,data := .seq ([]:List Value).toArray }=HH at hns₁ hsb₁ ⊢;have hCs:HH.objs.size=s₂.heap.objs.size+1:=by rw [<-hH2,Heap.size_push]
 have hDC:s₂.heap.objs.size≠HH.objs.size:=by rw [hCs];exact Nat.ne_of_lt (Nat.lt_succ_self _)
 have hC:s₂.heap.objs.size<=HH.objs.size:=by rw [hCs];exact Nat.le_succ _
 have hD:s₂.heap.objs.size<=s₂.heap.objs.size:=Nat.le_refl _;have old:∀b o,s₂.heap.get? b=some o->h₁.get? b=some o:=λb o e=>hsb₁.extBut b o (by rw [hCs];exact Nat.ne_of_lt (Nat.lt_succ_of_lt (Heap.lt_size e))) (Heap.get?_push_of_some _ (hH2▸Heap.get?_push_of_some _ e))
 have hacc:h₁.get? s₂.heap.objs.size=some { cls := .type "list",dict:=none,data := .seq ([]:List Value).toArray }:=hsb₁.extBut _ _ hDC (Heap.get?_push_of_some _ (hH2▸Heap.get?_push_size _ rfl));have hob:=T.obj _ _ st2
 have I3:Inv (Xw X scope (tn++cn) HH.objs.size s₂ H₂ fp) [(s₂.heap.objs.size,{ cls := .type "list",dict:=none,data := .seq ([]:List Value).toArray })] (blk tn.length σ js) H₂ { s₂ with heap:=h₁,toks:=s₂.toks+([]:List (Str×Value)).length }:=
  Zcg S I2 hC hD hDC f2 hob old hns₁ hacc (λv z=>by cases z)
 have st3:tnx 0 h₁:=T.keep _ _ _ st2 λb hb o e=>old b o e
 generalize hX':Xw X scope (tn++cn) HH.objs.size s₂ H₂ fp=X' at I3;generalize hs3:({ s₂ with heap:=h₁,toks:=s₂.toks+([]:List (Str×Value)).length }:Shared)=s3 at I3 ⊢;have st3':tnx 0 s3.heap:=by rw [<-hs3];exact st3
 have stat:∀{pins':List (Addr×Obj)}{H':Hp},(∀b∈fp,H' b=none)->(∀p∈pins',p.1=s₂.heap.objs.size)->∀b∈fp,Xi X' pins' H' b:=λ{pins' H'} hn hp b hb=>by
  subst hX';obtain⟨o,e,_⟩:=hob b hb;obtain⟨f0,f1,f2',f3,f4,f5⟩:=f2 b hb;refine⟨hn b hb,Nat.ne_of_lt (Nat.lt_of_lt_of_le (Heap.lt_size e) hC),λz=>(List.mem_cons.mp (I2.stkSub b z)).elim f1 f2',.inl hb,λx c h=>f4 x c (Vi _ [] (S.clos I2.ok) (λ_ z=>by cases z) h),λp hpp => ?_⟩
  have:p∈pins':=by
   have q:p∈([]:List (Addr×Obj))++pins':=hpp;simpa using q
  rw [hp p this];exact Nat.ne_of_gt (Heap.lt_size e)
 have loop:codeAny (model X.prog X.w) X.A (.compLoop (.ListComp elt [⟨tg,iter,ifs,0⟩] scope pos) 0 (.ref it) (.ref s₂.heap.objs.size) X'.env) (RR (.ref s₂.heap.objs.size) HH.objs.size) s3:=by
  refine Zbd (λk s'=>∃i ys its n H',Inv X' [(s₂.heap.objs.size,{ cls := .type "list",data := .seq its n })] (blk tn.length σ js) H' s'/\Vals ys its.toList/\ys.length<=sizeLine/\tnx i s'.heap/\(∀b∈fp,H' b=none)/\W i k ys H') ?_ m0
   ⟨0,[],#[],0,H₂,I3,.nil,Nat.zero_le _,st3',λb hb=>(f2 b hb).1,w0⟩
  rintro k s4 ⟨i,ys,its,n,H4,I4,hv4,hz4,st4,fr4,w4⟩
  have eP:X'.prog=X.prog:=by rw [<-hX'];rfl
  have eW:X'.w=X.w:=by rw [<-hX'];rfl
  have eK:X'.K=X.K:=by rw [<-hX'];rfl
  have eA:X'.A=X.A:=by rw [<-hX'];rfl
  have eC:X'.calm=true:=by rw [<-hX'];exact hc
  have eE:X'.xe=λ_ _=>False:=by rw [<-hX'];rfl
  rcases turn i k ys H4 w4 with⟨stop,qn⟩|⟨go,step⟩
  · have z:=T.done X' eP eW eK eC i _ s4 (blk tn.length σ js) H4 (λ_ _=>False) I4 (stat fr4 (λp hp=>by simp at hp;rw [hp])) st4 stop
    rw [eA]at z;refine UA (thn z λr s5 ⟨hr,I5⟩ => ?_);subst hr;subst hX';exact qn _ _ s5 its.toList n _ hC hD hDC hv4 hz4 (by simpa using I5)
  · have z:=T.item X' eP eW eK eC i _ s4 (blk tn.length σ js) H4 (λ_ _=>False) I4 (stat fr4 (λp hp=>by simp at hp;rw [hp])) st4 go
    rw [eA]at z;refine UA (thn z λr s5 ⟨u,hr,h5⟩ => ?_);subst hr;refine UA (thn h5 λ_ s6 ⟨x,H6,I6,r6,y6,st6,fr6⟩ => ?_);have I6':=I6.pinned (stat fr6 (λp hp=>by simp at hp;rw [hp])) (T.obj _ _ st6);have hg':PG X' tg g:=by rw [<-hX'];exact hg _ _ _ _
    have ht':PTs X' ifs tt:=by rw [<-hX'];exact ht _ _ _ _
    have he':PE X' elt te:=by rw [<-hX'];exact he _ _ _ _
    have z7:=hg' _ s6 _ H6 x u _ I6' r6 (step x H6 y6);rw [eP,eW,eA,eE]at z7;refine UA (thn z7 λ_ s7 ⟨σ7,H7,I7,q7⟩ => ?_);have z8:=ht' _ s7 σ7 H7 _ I7 q7;rw [eP,eW,eA,eE]at z8;refine UA (thn z8 λok s8 ⟨H8,I8,q8⟩ => ?_)
    have key:∀{σ9:St}{H9:Hp}{s9:Shared}{its':Array Value}{n':Nat},Inv X' ([(s₂.heap.objs.size,{ cls := .type "list",data := .seq its' n' })]++X0 fp s6.heap) σ9 H9 s9 ->
     Inv X' [(s₂.heap.objs.size,{ cls := .type "list",data := .seq its' n' })] (blk tn.length σ js) H9 s9/\tnx (i+1) s9.heap/\∀b∈fp,H9 b=none:=λ{σ9 H9 s9 its' n'} I9=>by
     refine⟨?_,T.keep _ _ _ st6 λb hb o e=>(I9.pin (b,o) (List.mem_append_right _ (List.mem_append_right _ (QJ hb e)))).1,λb hb => ?_⟩
     · have I9':=I9.unpinned
       subst hX';exact Zcf S I2 f2 I9'
     · obtain⟨o,e,d⟩:=T.obj _ _ st6 b hb
       exact(I9.pin (b,o) (List.mem_append_right _ (List.mem_append_right _ (QJ hb e)))).2.1
    cases ok with
    |false=>
     rw [if_neg Bool.false_ne_true]at q8 ⊢;obtain⟨m',hm,w8⟩:=q8;obtain⟨I9,st9,fr9⟩:=key I8;exact⟨m',hm,i+1,ys,its,n,H8,I9,hv4,hz4,st9,fr9,w8⟩
    |true=>
     rw [if_pos rfl]at q8 ⊢;have z9:=he' _ s8 σ7 H8 _ I8 q8;rw [eP,eW,eA,eE]at z9;refine UA (thn z9 λv s9 ⟨y,H9,I9,r9,hl9,m',hm,w9⟩ => ?_);have pd:=I9.pin (s₂.heap.objs.size,{ cls := .type "list",data := .seq its n }) (List.mem_append_right _ (List.mem_append_left _ List.mem_cons_self));have hpl:s9.heap.PlainList s₂.heap.objs.size its:=⟨n,pd.1⟩
     have hlen:its.size=ys.length:=by rw [hv4.length];simp
     refine wpAny_list_append_plain (hsz:=by omega) hpl λh10 hl10 hs10 => ?_
     obtain⟨n10,e10⟩:=hl10;have I10:Inv X' (X0 fp s6.heap) σ7 H9 s9:=I9.pins_of λp hp=>I9.pin p (List.mem_append_right _ (List.mem_append_right _ hp))
     have nD:∀b∈fp,b≠s₂.heap.objs.size:=λb hb=>by
      obtain⟨o,e,_⟩:=hob b hb;exact Nat.ne_of_lt (Heap.lt_size e)
     have I11:Inv X' (X0 fp s6.heap) σ7 H9 { s9 with heap:=h10 }:=by
      refine I10.turned (t':=s9.toks) (it:=s₂.heap.objs.size) (λb o hb e=>(hs10.2 b hb).trans e) pd.2.1 pd.2.2.1 ?_ ?_ ?_
      · subst hX';exact .inr (Nat.le_refl _)
      · subst hX'
        intro x c h;obtain⟨v',o',q,_⟩:=I2.cell x c (Vi _ [] (S.clos I2.ok) (λ_ z=>by cases z) h);exact Nat.ne_of_lt (Heap.lt_size q)
      · intro p hp
        have hp':p∈X0 fp s6.heap:=by
         subst hX';have q:p∈([]:List (Addr×Obj))++X0 fp s6.heap:=hp;simpa using q
        exact nD _ (ZaO hp').1
     have I12:Inv X' ([(s₂.heap.objs.size,{ cls := .type "list",data := .seq (its.push v) n10 })]++X0 fp s6.heap) σ7 H9 { s9 with heap:=h10 }:=I11.pins_of λp hp=>by
      rcases List.mem_append.mp hp with q|q
      · have e:p=(s₂.heap.objs.size,{ cls := .type "list",data := .seq (its.push v) n10 }):=by simpa using q
        subst e;exact⟨e10,pd.2.1,pd.2.2.1,pd.2.2.2.1,λv z=>by cases z⟩
      · exact I11.pin p (List.mem_append_right _ q)
     obtain⟨J1,J2,J3⟩:=key I12;refine⟨m',hm,i+1,ys++[y],its.push v,n10,H9,J1,?_,?_,J2,J3,w9⟩
     · have:(its.push v).toList=its.toList++[v]:=by simp
       rw [this];exact hv4.append (.cons r9 .nil)
     · rw [List.length_append,List.length_singleton]
       omega
 have eEnv:({ newEnv scope HH.objs.size X.env.globals (YW X.env.cells scope.names []) X.env.qual none .none (some X.env) builtinsNs with scope:=relabel scope X.env }:Env)=X'.env:=by rw [<-hX'];rfl
 have loop2:=loop;rw [<-eEnv]at loop loop2;exact codeAny_compStart_list loop (T.self X.A 0 s3 _ _ st3' loop2)
theorem Vj (hc:X.calm=true) (S:CompSc X scope tn cn js) (hi:PI X tg iter wi)
 (hg:∀C s₂ H₂ fp,PG (Xw X scope (tn++cn) C s₂ H₂ fp) tg g) (ht:∀C s₂ H₂ fp,PTs (Xw X scope (tn++cn) C s₂ H₂ fp) ifs tt) (he:∀C s₂ H₂ fp,PE (Xw X scope (tn++cn) C s₂ H₂ fp) elt te)
 (hs:∀x,foldedSetIterable iter X.env x=pure x:=by intro _;rfl) :
 PE X (.ListComp elt [⟨tg,iter,ifs,0⟩] scope pos) (QP wi g tt te tn.length js):=by
 intro pins s σ H Q I h;rw [eval_ListComp];refine wpAny_comprehension_free (use:=none) (cl:=YW X.env.cells scope.names []) rfl hs (Zac (S.clos I.ok)) S.kind S.names (thn (hi pins s σ H _ I h) λv s1 h1=>thn h1 λitv s2 h2 => ?_);obtain⟨it,fp,tnx,J,H2,e,I2,T,st2,f2,W,⟨m0,w0⟩,turn⟩:=h2;subst e;refine Zau (RR:=λacc C=>compPost (model X.prog X.w) X.A X.xe none (EP X pins σ Q) acc C) (W:=W) (m0:=m0) hc S hg ht he I2 T st2 f2 w0 λi m ys H w => ?_
 rcases turn i m ys H w with⟨stop,qn⟩|r
 · refine .inl ⟨stop,λC D s its n σ' hC hD hDC hv hz I' => ?_⟩
   obtain⟨m',hn,_⟩:=id I'.loc;refine⟨m',hn,λh' hs' => ?_⟩;have pd:=I'.pin (D,{ cls := .type "list",data := .seq its.toArray n }) (List.mem_append_right _ List.mem_cons_self);exact⟨.ref D,_,ZbG S I2 hC hD hDC f2 I' hv hz hs',rfl,qn D pd.2.1⟩
 · exact .inr r
end
end L2
namespace L2
open PySem PySem.Spec PyProof.Rows
abbrev S(cs:List Nat):V := .str (tx cs)
theorem ZiY{a b:List Nat}:S a=S b ↔ a=b:=by
 constructor
 · intro h
   exact tx_inj.mp (V.str.inj h)
 · rintro rfl;rfl
section
variable{X:Cx}{pos:Pos}
theorem U5{x:Str}{j:Nat}(cs:List Nat)(h:x=tx cs):PE X (.Constant (.str x) j pos) (tC (S cs)):=by
 subst h;exact ZhT
def Its(cs:List Nat):It:=⟨λi _=>i<cs.length,λi H v H'=>H'=H/\∃c,cs[i]? = some c/\v=S [c],λi _=>cs.length<=i⟩
theorem QQ(x:Str):strIterType x = "str_ascii_iterator" \/ strIterType x = "str_iterator" := by
 unfold strIterType
 split
 · exact .inl rfl
 · exact .inr rfl
theorem Zet{P:Program}{w:World}{K:PySem.W.Frag}{tg:Expr}(it:Addr)(cs:List Nat)(t:Tok):Turn P w K tg (Its cs) [it] it (λi h=>h.IsStrIter it (strIterType (tx cs)) (tx cs) t i) where
 mem:=by simp
 obj:=λi h st b hb=>by
  have e:b=it:=by simpa using hb
  subst e;obtain⟨o,e,c,d⟩:=st;exact⟨o,e,λv z=>by rw [d]at z;cases z⟩
 keep:=λi h h' st k=>by
  obtain⟨o,e,r⟩:=st;exact⟨o,k it (by simp) o e,r⟩
 item:=by
  intro X hP hw hK hc i pins s σ H E I hf st hg;subst hP hw hK;obtain⟨f0,f1,f2,f3,f4,f5⟩:=hf it (by simp);have hg:i<cs.length:=hg;have hx:(tx cs).cps[i]? = some cs[i]:=by simp [tx,hg]
  have fin:∀(h':Heap),h'.IsStrIter it (strIterType (tx cs)) (tx cs) t (i+1)->Heap.SameBut it s.heap h' ->
   ∃u,some (Value.str ⟨#[cs[i]]⟩ s.toks)=some u/\wpAny (model X.prog X.w) X.A (letOwnedTupleGo tg (.ref it) u) (λ_ s2=>∃x H',Inv X pins σ H' s2/\RelV x u/\(Its cs).yld i H x H'/\s2.heap.IsStrIter it (strIterType (tx cs)) (tx cs) t (i+1)/\∀b∈[it],H' b=none) E { s with heap:=h',toks:=s.toks+1 }:=λh' st' sb=>by
   have I1:Inv X pins σ H { s with heap:=h',toks:=s.toks+1 }:=I.turned (λb o hb e=>(sb.2 b hb).trans e) f0 f1 f3 f4 f5;obtain⟨o,e,hc',d⟩:=id st';refine⟨_,rfl,UY (s:={ s with heap:=h',toks:=s.toks+1 }) e hc' d ?_ ⟨S [cs[i]],H,I1,⟨s.toks,rfl⟩,⟨rfl,cs[i],by simp [hg],rfl⟩,st',λb hb=>(hf b hb).1⟩⟩;rcases QQ (tx cs)with z|z<;>rw [z]<;>decide
  rcases QQ (tx cs)with z|z
  · rw [z]at st
    refine wpAny_pyNext_ascii_item st hx λh' st' sb=>fin h' (by rw [z];exact st') sb
  · rw [z]at st
    refine wpAny_pyNext_wide_item st hx λh' st' sb=>fin h' (by rw [z];exact st') sb
 done:=by
  intro X hP hw hK hc i pins s σ H E I hf st hg;subst hP hw hK;obtain⟨f0,f1,f2,f3,f4,f5⟩:=hf it (by simp);have hg:cs.length<=i:=hg;have hx:(tx cs).cps[i]? = none:=by simp [tx];omega
  rcases QQ (tx cs)with z|z
  · rw [z]at st
    exact wpAny_pyNext_ascii_end (I.ok.hd hc) st hx λh' eb=>⟨rfl,I.turned (t':=s.toks) (λb o hb e=>eb b o hb e) f0 f1 f3 f4 f5⟩
  · rw [z]at st
    exact wpAny_pyNext_wide_end (I.ok.hd hc) st hx λh' eb=>⟨rfl,I.turned (t':=s.toks) (λb o hb e=>eb b o hb e) f0 f1 f3 f4 f5⟩
 self:=λ_ i _ _ _ st h=>by
  rcases QQ (tx cs)with z|z
  · rw [z]at st
    exact wpAny_pyIter_striter_ascii st h
  · rw [z]at st
    exact wpAny_pyIter_striter_wide st h
variable{tg:Expr}
def JW(K:PySem.W.Frag)(tl:TE):TI:=λσ H R=>tl σ H λx H1=>(∃a xs,x = .ref a/\SqL K H1 a xs/\R (Itl K a) H1)\/(∃a xs,x = .ref a/\SqT K H1 a xs/\R (Itt K a) H1)\/∃cs,x=S cs/\R (Its cs) H1
theorem Zh2{l:Expr}{tl:TE}(hl:PE X l tl):PI X tg l (JW X.K tl):=by
 intro pins s σ H R I h;refine thn (hl pins s σ H _ I h) λv s1 ⟨x,H1,I1,r1,q1⟩ => ?_
 rcases q1 with⟨a,xs,e,hq,q⟩|⟨a,xs,e,hq,q⟩|⟨cs,e,q⟩
 · subst e
   cases r1;obtain⟨its,rv,p,hz⟩:=I1.list hq;refine wpAny_pyIter_list p.isList ?_;refine⟨s1.heap.objs.size,[s1.heap.objs.size],_,_,H1,rfl,I1.kept (t':=s1.toks) λb o e=>Heap.get?_push_of_some _ e,ZdC a _,⟨_,Heap.get?_push_size _ rfl,rfl,rfl⟩,λb hb => ?_,q⟩;have e:b=s1.heap.objs.size:=by simpa using hb
   subst e;exact I1.fpOk (Nat.le_refl _) (I1.hok.fresh (Nat.le_refl _))
 · have hpi:=ZhW (X:=X) (tg:=tg) (l:=l) (tl:=λ_ H Q=>Q (.ref a) H)
   subst e;cases r1;obtain⟨its,rv,p,hz⟩:=I1.tuple hq;refine wpAny_pyIter_tuple (show s1.heap.IsTuple a its.toArray from p) ?_;refine⟨s1.heap.objs.size,[s1.heap.objs.size],_,_,H1,rfl,I1.kept (t':=s1.toks) λb o e=>Heap.get?_push_of_some _ e,Zas a _,⟨_,Heap.get?_push_size _ rfl,rfl,rfl⟩,λb hb => ?_,q⟩;have e:b=s1.heap.objs.size:=by simpa using hb
   subst e;exact I1.fpOk (Nat.le_refl _) (I1.hok.fresh (Nat.le_refl _))
 · subst e
   obtain⟨t,rfl⟩:=r1;refine wpAny_pyIter_strU ?_;refine⟨s1.heap.objs.size,[s1.heap.objs.size],_,_,H1,rfl,I1.kept (t':=s1.toks) λb o e=>Heap.get?_push_of_some _ e,Zet _ cs t,⟨_,Heap.get?_push_size _ rfl,rfl,rfl⟩,λb hb => ?_,q⟩;have e:b=s1.heap.objs.size:=by simpa using hb
   subst e;exact I1.fpOk (Nat.le_refl _) (I1.hok.fresh (Nat.le_refl _))
def rAddS:R2:=λx y H Q=>∃a b,x=S a/\y=S b/\a.length+b.length<=sizeLine/\Q (S (a++b)) H
theorem op_addS:OpR X (binaryOp .Add) rAddS:=by
 intro pins s σ H x y v u Q I rx ry h;obtain⟨a,b,rfl,rfl,hz,q⟩:=h;refine Zb6 pins s σ H _ _ v u Q I rx ry ⟨tx a,tx b,rfl,rfl,by rw [Y4,Y4];exact hz,?_⟩;rw [JP];exact q
def ZiZ:R2:=λx y H Q=>rI0 (λi j => .int (i+j)) x y H Q\/rAddS x y H Q\/ZkM x y H Q
def Zkt(neg:Bool):R2:=λx y H Q=>∃c b,x=S [c]/\y=S b/\Q (.bl (neg != decide (c∈b))) H
theorem op_inS:OpR X (compareOp .In) (Zkt false):=by
 intro pins s σ H x y v u Q I rx ry h;obtain⟨c,b,rfl,rfl,q⟩:=h;refine ZdE pins s σ H _ _ v u Q I rx ry ⟨tx [c],tx b,rfl,rfl,?_⟩;have e:=StrLaws.found_one (tx b) c;rw [U3]at e;rw [show tx [c]=(⟨#[c]⟩:Str)from rfl,e];simpa using q
def QR(K:PySem.W.Frag)(neg:Bool):R2:=λx y H Q=>Zkt neg x y H Q\/rIn K neg x y H Q
theorem Zh3:OpR X (compareOp .In) (QR X.K false):=op_inS.or ZdJ
def rIxSt:R2:=λx y H Q=>∃a i c,x=S a/\y = .int i/\a.length<=sizeLine/\atI a i=some c/\Q (S [c]) H
theorem ZkO:IxR X rIxSt:=by
 intro value slice pins s σ H x y v u Q I rx ry h hs;obtain⟨a,i,c,rfl,rfl,hz,he,q⟩:=h;exact ix_str value slice pins s σ H _ _ v u Q I rx ry ⟨tx a,i,c,rfl,rfl,by rw [Y4];exact hz,by rw [U3];exact he,q⟩ hs
def JX(K:PySem.W.Frag):R2:=λx y H Q=>Zkq K x y H Q\/Zkr K x y H Q\/rIxSt x y H Q
theorem ZkP:IxR X (JX X.K):=ix_list.or (ix_tup.or ZkO)
def rSlS:V->Option Int->Option Int->Hp->VK->Prop:=λx lo hi H Q=>∃a,x=S a/\a.length<=sizeLine/\Q (S (cutL a lo hi)) H
theorem sl_S:SlR X rSlS:=by
 intro pins s σ H x v vl vu lo hi sl Q I rx hs pl pu h;obtain⟨a,rfl,hz,q⟩:=h;obtain⟨t,rfl⟩:=rx;refine⟨"str",_,F.slot_str_getitem.lookup,typeIs_str _ _ _,?_⟩;have fin:∀t' k,EP X pins σ Q (.str (Txt.slice (tx a) lo hi) t') { s with toks:=k }:=λt' k=>⟨S (cutL a lo hi),H,I.tok _,⟨t',by rw [Zer]⟩,q⟩
 have hle:(Txt.slice (tx a) lo hi).length<=sizeLine:=Nat.le_trans (Txt.slice_le _ _ _) (by rw [Y4];exact hz);cases pl with
 |none=>
  cases pu with
  |none=>exact wpAny_getItem_str_slice (l:=none) (u:=none) (st:=none) hs rfl (post_val_or_str ⟨hle,fin⟩)
  |int j uj=>exact wpAny_getItem_str_slice (l:=none) (u:=some (j,uj)) (st:=none) hs rfl (post_val_or_str ⟨hle,fin⟩)
 |int i ui=>
  cases pu with
  |none=>exact wpAny_getItem_str_slice (l:=some (i,ui)) (u:=none) (st:=none) hs rfl (post_val_or_str ⟨hle,fin⟩)
  |int j uj=>exact wpAny_getItem_str_slice (l:=some (i,ui)) (u:=some (j,uj)) (st:=none) hs rfl (post_val_or_str ⟨hle,fin⟩)
def JY(K:PySem.W.Frag):V->Option Int->Option Int->Hp->VK->Prop:=λx lo hi H Q=>rSlS x lo hi H Q\/Zks K x lo hi H Q\/Zkp K x lo hi H Q
theorem ZkQ:SlR X (JY X.K):=sl_S.or (sl_list.or ZhZ)
def JZ(K:PySem.W.Frag):List V->Hp->VK->Prop:=λxs H Q=>(∃a,xs=[S a]/\a.length<=sizeLine/\Q (.int a.length) H)\/∃p ys,xs=[.ref p]/\(SqL K H p ys\/SqT K H p ys)/\Q (.int ys.length) H
theorem ZdO:YG X (.builtin "len") (JZ X.K):=by
 intro pins s σ H xs us Q I rs q;rcases q with⟨a,rfl,hz,q⟩|q
 · exact Zbb pins s σ H _ us Q I rs ⟨tx a,rfl,by rw [Y4];exact hz,by rw [Y4];exact q⟩
 · exact Zba pins s σ H xs us Q I rs q
theorem Zf5(bs:List Bool):∀(its:List Value),Vals (bs.map V.bl) its->its=bs.map Value.bool:=by
 induction bs with
 |nil=>intro its r;cases r;rfl
 |cons b bs ih=>
  intro its r;cases r with
  |cons r1 r2=>
   rw [ih _ r2];cases r1;rfl
theorem ZdP(bs:List Bool):((List.range bs.length).all λi=>bs.getD i false)=bs.all id:=by
 rw [Bool.eq_iff_iff,List.all_eq_true,List.all_eq_true];constructor
 · intro h b hb
   obtain⟨i,hi⟩:=List.getElem?_of_mem hb;have hl:i<bs.length:=(List.getElem?_eq_some_iff.mp hi).1;have:=h i (List.mem_range.mpr hl);rw [List.getD_eq_getElem?_getD,hi]at this;exact this
 · intro h i hi
   have hl:=List.mem_range.mp hi;have:=h bs[i] (List.getElem_mem hl);rw [List.getD_eq_getElem?_getD,List.getElem?_eq_getElem hl];exact this
def J0(K:PySem.W.Frag)(f:List Bool->Bool):List V->Hp->VK->Prop:=λxs H Q=>∃p bs,xs=[.ref p]/\SqL K H p (bs.map V.bl)/\Q (.bl (f bs)) H
theorem Zch {pins:List (Addr×Obj)} {σ:St} {H:Hp} {s:Shared} {p:Addr} {bs:List Bool} {Q:Value->Shared->Prop} {E:Value->Shared->Prop} {f:(Nat->Bool)->Bool} (hc:X.calm=true) (I:Inv X pins σ H s) (hq:SqL X.K H p (bs.map V.bl))
 (q:∀h' tk,(∀b o,s.heap.get? b=some o->h'.get? b=some o)->Q (.bool (f λi=>bs.getD i false)) { s with heap:=h',toks:=tk }) :
 wpAny (model X.prog X.w) X.A.in1 (pyIter (.ref p)) (λit s₂=>∃I fp wr n P St tr,it = .ref I/\Walks X.prog X.w X.A.in1 I fp wr n P St/\St 0 s₂.heap/\TruthOf X.prog X.w X.A.in1 P tr /\
  n=bs.length/\tr=(λi=>bs.getD i false)/\∀h' tk,(∀b o,b∉wr->s₂.heap.get? b=some o->h'.get? b=some o)->Q (.bool (f tr)) { s₂ with heap:=h',toks:=tk }) E s:=by
 obtain⟨its,rv,pl,hz⟩:=I.list hq;have e:=Zf5 bs its rv;subst e;refine wpAny_pyIter_list pl.isList ?_;have hlt:p<s.heap.objs.size:=pl.lt;have hh:X.A.in1.handled=none:=I.ok.hd hc;refine⟨s.heap.objs.size,_,_,_,_,_,λi=>bs.getD i false,rfl,Walks.list hh _ p (Nat.ne_of_lt hlt) (bs.map Value.bool).toArray,⟨⟨_,Heap.get?_push_size _ rfl,rfl,rfl⟩,(pl.keeps λb o e=>Heap.get?_push_of_some _ e).isList⟩,?_,by simp,rfl,λh' tk k => ?_⟩
 · intro i v s' Q' E' hv hq'
   have:v=Value.bool (bs.getD i false):=by
    have hv':(bs.map Value.bool)[i]? = some v:=by simpa using hv
    rw [List.getElem?_map]at hv';rw [List.getD_eq_getElem?_getD];cases e:bs[i]? with
    |none=>rw [e]at hv';cases hv'
    |some b=>rw [e]at hv';exact(Option.some.inj hv').symm
   subst this;exact wpAny_truthy_bool hq'
 · refine q h' tk λb o e=>k b o (λz => ?_) (Heap.get?_push_of_some _ e)
   have h1:=Heap.lt_size e;have h2:b=s.heap.objs.size:=by simpa using z
   rw [h2]at h1;exact Nat.lt_irrefl _ h1
theorem ZdQ(hc:X.calm=true):YG X (.builtin "all") (J0 X.K λbs=>bs.all id):=by
 intro pins s σ H xs us Q I rs h;obtain⟨p,bs,rfl,hq,q⟩:=h;obtain⟨u,rfl,rx⟩:=Xj rs;cases rx;have z:=Zch (f:=λtr=>(List.range bs.length).all tr) (Q:=EP X pins σ Q) (E:=X.xe) hc I hq λh' tk k=>⟨.bl _,H,I.kept k,rfl,by rw [ZdP];exact q⟩
 refine call_all_walk (wpAny_mono z (λit s₂ z2 => ?_) λ_ _ z=>z);obtain⟨I',fp,wr,n,P,St,tr,e1,W,st,ht,en,et,hq'⟩:=z2;exact⟨I',fp,wr,n,P,St,tr,e1,W,st,ht,λh' tk k=>by rw [en];exact hq' h' tk k⟩
theorem Zeu:YG X (.builtin "isinstance") (λxs H Q=>∃x c cv t b,xs=[x,c]/\(∀v,RelV c v->v=cv)/\TyOf X.K H x t/\kitOne X.K t cv=some b/\Q (.bl b) H):=by
 intro pins s σ H xs us Q I rs h;obtain⟨x,c,cv,t,b,rfl,hc,ty,e,q⟩:=h;obtain⟨u,w',rfl,rx,rc⟩:=JF rs;have ec:=hc _ rc;subst ec;exact ZdH I rx ty e λtk=>⟨.bl b,H,I.tok tk,rfl,q⟩
theorem ZaM:MtR X "str.startswith" (λx xs H Q=>∃a b,x=S a/\xs=[S b]/\Q (.bl (b.isPrefixOf a)) H):=by
 intro pins s σ H x xs v us Q I rx rs h;obtain⟨a,b,rfl,rfl,q⟩:=h;obtain⟨t,rfl⟩:=rx;obtain⟨u,rfl,t',rfl⟩:=Xj rs;refine SC.startswith ?_;rw [ZdN];exact⟨.bl _,H,I,rfl,q⟩
end
section
variable{X:Cx}{K:PySem.W.Frag}{pos:Pos}{tg:Expr}
theorem Zhh(hK:X.K=K:=by rfl):OpR X (compareOp .In) (QR K false):=hK▸Zh3
theorem ZD(hK:X.K=K:=by rfl):IxR X (JX K):=hK▸ZkP
theorem U6(hK:X.K=K:=by rfl):SlR X (JY K):=hK▸ZkQ
theorem Z6(hK:X.K=K:=by rfl):YG X (.builtin "len") (JZ K):=hK▸ZdO
theorem Zi0(hc:X.calm=true:=by rfl)(hK:X.K=K:=by rfl):YG X (.builtin "all") (J0 K λbs=>bs.all id):=hK▸ZdQ hc
def ZkR(K:PySem.W.Frag):List V->Hp->VK->Prop:=λxs H Q=>∃x c cv t b,xs=[x,c]/\(∀v,RelV c v->v=cv)/\TyOf K H x t/\kitOne K t cv=some b/\Q (.bl b) H
theorem YL{l:Expr}{tl:TE}(hl:PE X l tl)(hK:X.K=K:=by rfl):PI X tg l (JW K tl):=hK▸Zh2 hl
theorem YM{e:Expr}{ta:TE}{f:Str}(he:PE X e ta)(hb:attributeBase e f X.env (eval e X.env)=eval e X.env:=by rfl)(hK:X.K=K:=by rfl):PE X (.Attribute e f pos) (JH K ta f):=hK▸ZhX he hb
def Zfj(K:PySem.W.Frag):List V->Hp->VK->Prop:=λxs H Q=>∃p ys,xs=[.ref p]/\((SqL K H p ys/\∀l,H l=none->Q (.ref l) (upd H l (.tup ys)))\/(SqT K H p ys/\Q (.ref p) H))
def Zh4(K:PySem.W.Frag):List V->Hp->VK->Prop:=λxs H Q=>∃p ys,xs=[.ref p]/\(SqL K H p ys\/SqT K H p ys)/\∀l,H l=none->Q (.ref l) (upd H l (.lst ys))
theorem XJ(hK:X.K=K:=by rfl):YG X (.type "tuple") (Zfj K):=hK▸ZaL
theorem YH {o e:Expr} {es:List Expr} {to:TE} {t:TA} {name:Str} {apos cpos:Pos} {T id:String} {r:V->List V->Hp->VK->Prop} (pa:PlainAttrs T) (slot:Slot T name id) (hty:typeOf (.builtin id)=pure (.type "method_descriptor")) (hm:MtR X id r) (ho:PE X o to) (ha:PA X (e::es) t)
 (hbase:attributeBase o name X.env (eval o X.env)=eval o X.env:=by rfl)
 (hfew:((backTo cpos (starEach (e::es) X.env)).all (λx => !x.1)&&(backToKw cpos (keywordEach [] X.env)).all (λx=>x.1.isSome)
   && decide ((e::es).length+([]:List Keyword).length+(if([]:List Keyword).isEmpty then 0 else 1)<30))=true:=by rfl)
 (hline:(apos.endLine == cpos.line)=true:=by rfl) (hs:starEach (e::es) X.env=(false,eval e X.env)::starEach es X.env:=by rfl) (hplain:(backTo cpos (starEach es X.env)).any (·.1)=false:=by rfl) (hK:X.K=K:=by rfl) :
 PE X (.Call (.Attribute o name apos) (e::es) [] cpos) (tBM K T r to t):=hK▸ZiW pa slot hty hm ho ha hbase hfew hline hs hplain
theorem V7 {es:List Expr} {k:Nat} {t:TGs} {n:Nat} (h:PGs X es t) (hc:X.calm=true:=by rfl)
 (hn:(assignEach es X.env).length=n:=by rfl) (hst:(assignEach es X.env).findIdx? (·.1)=none:=by rfl) (hK:X.K=K:=by rfl):PG X (.Tuple es k pos) (UX K n t):=hK▸ZhV hc h hn hst
end
end L2
namespace L2
open PySem PySem.Spec PyProof.Rows
theorem Zev{H:Hp}{q:Addr}{o:HO}(h:H q=none):Same H (upd H q o):=λb u e=>by
 rw [Zs (YU e h)];exact e
structure Walk(J:It)(xs:List V)(H:Hp):Prop where
 go:∀i,i<xs.length->J.go i H
 yld:∀(i:Nat)v H',i<xs.length->J.yld i H v H'->H'=H/\xs[i]? = some v
 stop:∀i,xs.length<=i->J.stop i H
end L2
namespace L2
open PySem PySem.Spec PyProof.Rows
def J4(lo c:Int)(n:Nat):It:=⟨λi _=>i<n,λi H x H'=>H'=H/\x = .int (lo+i*c),λi _=>n<=i⟩
theorem Zbs{P:Program}{w:World}{K:PySem.W.Frag}{tg:Expr}(it:Addr)(lo c:Int)(n:Nat):Turn P w K tg (J4 lo c n) [it] it (λi h=>IsRangeIter h it (lo+(i:Nat)*c) ((n:Int)-(i:Nat)) c) where
 mem:=by simp
 obj:=λi h st b hb=>by
  have e:b=it:=by simpa using hb
  subst e
  exact⟨_,st,λv z=>by
   have z':Data.fields _=Data.cell v:=z;cases z'⟩
 keep:=λi h h' st k=>k it (by simp) _ st
 item:=by
  intro X hP hw hK hc i pins s σ H E I hf st hg;subst hP hw hK;obtain⟨f0,f1,f2,f3,f4,f5⟩:=hf it (by simp);have W:=Walks.range (prog:=X.prog) (w:=X.w) (I.ok.hd hc) it lo c n;refine W.item i s _ _ hg st λv h' tk hv st' kk => ?_
  obtain⟨t,rfl⟩:=hv;have I1:Inv X pins σ H { s with heap:=h',toks:=tk }:=I.turned (λb o hb e=>kk b o (by simpa using hb) e) f0 f1 f3 f4 f5;exact⟨_,rfl,UY (s:={ s with heap:=h',toks:=tk }) (n:="range_iterator") st' rfl rfl (by decide) ⟨.int (lo+i*c),H,I1,⟨t,rfl⟩,⟨rfl,rfl⟩,st',λb hb=>(hf b hb).1⟩⟩
 done:=by
  intro X hP hw hK hc i pins s σ H E I hf st hg;subst hP hw hK;obtain⟨f0,f1,f2,f3,f4,f5⟩:=hf it (by simp);exact wpAny_pyNext_range_end (I.ok.hd hc) st (by have:n<=i:=hg;omega) λh' eb=>⟨rfl,I.turned (t':=s.toks) (λb o hb e=>eb b o hb e) f0 f1 f3 f4 f5⟩
 self:=λ_ _ _ _ _ st h=>wpAny_pyIter_rangeiter st h
section
variable{X:Cx}{tg:Expr}
def Zhi(ta:TA):TI:=λσ H R=>ta σ H λvs H1=>∃i j c:Int,vs=[.int i,.int j,.int c]/\(c≠0/\c.natAbs<1073741824/\Builtin.Range.small i j c=true)/\R (J4 i c (Builtin.Range.rangeSize i j c).toNat) H1
theorem Zbt(i j c:Int)(hc:c≠0):0<=Builtin.Range.rangeSize i j c:=by
 unfold Builtin.Range.rangeSize
 split
 · split
   · have:=Int.ediv_nonneg (a:=j-i-1) (b:=c) (by omega) (by omega)
     omega
   · omega
 · split
   · have:=Int.ediv_nonneg (a:=i-j-1) (b:=-c) (by omega) (by omega)
     omega
   · omega
theorem ZdR {a b c:Expr} {ta:TA} {p pos:Pos} (hg:Gl X "range") (hm:X.mg "range" = none) (ha:PA X [a,b,c] ta) (hs:starEach [a,b,c] X.env=[(false,eval a X.env),(false,eval b X.env),(false,eval c X.env)]:=by rfl) (hs2:starEach [b,c] X.env=[(false,eval b X.env),(false,eval c X.env)]:=by rfl) :
 PI X tg (.Call (.Name "range" p) [a,b,c] [] pos) (Zhi ta):=by
 intro pins s σ H R I h;refine Call_ (Vf I hg hm boot_range (PyProof.Rows.callWith_type1 (thn (ha pos pins s σ H _ I h) λus s1 ⟨vs,H1,I1,r1,q1⟩ => ?_) (by rw [hs,hs2]) (by rw [hs2];rfl)));obtain⟨i,j,c,e,⟨q1,q2,q3⟩,q⟩:=q1;subst e;cases r1 with
 |cons r rr=>
  cases rr with
  |cons r' rr=>
   cases rr with
   |cons r'' rr=>
    cases rr;obtain⟨t,rfl⟩:=r;obtain⟨t',rfl⟩:=r';obtain⟨t'',rfl⟩:=r'';refine call_range_3 q1 ?_ (.inl (PyProof.noPylong_small q2));refine wpAny_pyIter_range (IsRange.new ..) q3 ?_;have I2:Inv X pins σ H1 { s1 with heap:=s1.heap.push { cls := .type "range",data := .fields #[.int i t,.int j t',.int c t''] },toks:=s1.toks }:=I1.kept λb o e=>Heap.get?_push_of_some _ e
    refine⟨(s1.heap.push { cls := .type "range",data := .fields #[.int i t,.int j t',.int c t''] }).objs.size,[(s1.heap.push { cls := .type "range",data := .fields #[.int i t,.int j t',.int c t''] }).objs.size],_,_,H1,rfl,
     I2.kept (t':=s1.toks) λb o e=>Heap.get?_push_of_some _ e,Zbs _ i c (Builtin.Range.rangeSize i j c).toNat,?_,λb hb => ?_,q⟩
    · have e1:i+((0:Nat):Int)*c=i:=by simp
      have e2:(((Builtin.Range.rangeSize i j c).toNat:Nat):Int)-((0:Nat):Int)=Builtin.Range.rangeSize i j c:=by
       have:=Zbt i j c q1;omega
      show IsRangeIter _ _ (i+((0:Nat):Int)*c) ((((Builtin.Range.rangeSize i j c).toNat:Nat):Int)-((0:Nat):Int)) c;rw [e1,e2];exact Heap.get?_push_size _ rfl
    · have e:b=(s1.heap.push { cls := .type "range",data := .fields #[.int i t,.int j t',.int c t''] }).objs.size:=by simpa using hb
      subst e;exact I2.fpOk (Nat.le_refl _) (I2.hok.fresh (Nat.le_refl _))
end
end L2
namespace L2
open PySem PySem.Spec PyProof.Rows
section
variable{X:Cx}{elts:List Expr}{x1:Nat}{tpos:Pos}
end
end L2
namespace L2
open PySem PySem.Spec PyProof.Rows
section
variable{κ:Type} [DecidableEq κ]
def Y9(kvs:List (κ×V))(k:κ):Option V:=(kvs.find? λkv=>decide (kv.1=k)).map (·.2)
def Yq(kvs:List (κ×V))(k:κ)(v:V):List (κ×V):=
 if(kvs.any λkv=>decide (kv.1=k))=true then kvs.map (λkv=>if kv.1=k then(kv.1,v)else kv)else kvs++[(k,v)]
def Zhj(kvs:List (κ×V))(k:κ):List (κ×V):=kvs.filter λkv=>decide (kv.1≠k)
theorem QS{p:κ×V}{r:List (κ×V)}{k:κ}(e:p.1=k):Y9 (p::r) k=some p.2:=by simp [Y9,List.find?_cons,e]
theorem QT{p:κ×V}{r:List (κ×V)}{k:κ}(e:¬p.1=k):Y9 (p::r) k=Y9 r k:=by simp [Y9,List.find?_cons,e]
theorem J5(k:κ):∀kvs:List (κ×V),(kvs.any λkv=>decide (kv.1=k))=(Y9 kvs k).isSome
 | []=>rfl
 |p::r=>by
  rw [List.any_cons]
  by_cases e:p.1=k
  · simp only [QS e,decide_eq_true e,Bool.true_or,Option.isSome_some]
  · rw [QT e,decide_eq_false e,Bool.false_or];exact J5 k r
theorem J6(kvs:List (κ×V))(k:κ)(v:V):(Yq kvs k v).length<=kvs.length+1:=by
 unfold Yq
 split
 · rw [List.length_map];omega
 · rw [List.length_append,List.length_cons,List.length_nil];omega
theorem RelO.isSome_eq{o:Option V}{u:Option Value}(r:RelO o u):o.isSome=u.isSome:=by
 cases o with
 |none=>cases u with
  |none=>rfl
  |some _=>exact(show False from r).elim
 |some _=>cases u with
  |none=>exact(show False from r).elim
  |some _=>rfl
theorem KV.val{kvs:List (κ×V)}{vs:List (κ×Value)}(r:KV kvs vs)(k:κ):RelO (Y9 kvs k) (valueAt vs k):=by
 unfold KV at r
 induction r with
 |nil=>exact True.intro
 | @cons p q ps qs h t ih=>
  obtain⟨h1,h2⟩:=h
  by_cases e:p.1=k
  · have e':q.1=k:=h1.symm.trans e
    have b:valueAt (q::qs) k=some q.2:=by simp [valueAt,List.find?_cons,e']
    rw [QS e,b];exact h2
  · have e':¬q.1=k:=λz=>e (h1.trans z)
    have b:valueAt (q::qs) k=valueAt qs k:=by simp [valueAt,List.find?_cons,e']
    rw [QT e,b];exact ih
theorem KV.any{kvs:List (κ×V)}{vs:List (κ×Value)}(r:KV kvs vs)(k:κ):(kvs.any λkv=>decide (kv.1=k))=vs.any λkv=>decide (kv.1=k):=by
 unfold KV at r
 induction r with
 |nil=>rfl
 |cons h t ih=>rw [List.any_cons,List.any_cons,ih,h.1]
theorem KV.repl{kvs:List (κ×V)}{vs:List (κ×Value)}(r:KV kvs vs)(k:κ){y:V}{u:Value}(ry:RelV y u) :
 KV (kvs.map λkv=>if kv.1=k then(kv.1,y)else kv) (vs.map λkv=>if kv.1=k then(kv.1,u)else kv):=by
 unfold KV at r ⊢
 induction r with
 |nil=>exact .nil
 | @cons p q ps qs h t ih=>
  rw [List.map_cons,List.map_cons];refine .cons ?_ ih;obtain⟨h1,h2⟩:=h
  by_cases e:p.1=k
  · rw [if_pos e,if_pos (h1.symm.trans e)];exact⟨h1,ry⟩
  · rw [if_neg e,if_neg (λz=>e (h1.trans z))];exact⟨h1,h2⟩
theorem KV.put{kvs:List (κ×V)}{vs:List (κ×Value)}(r:KV kvs vs)(k:κ){y:V}{u:Value}(ry:RelV y u):KV (Yq kvs k y) (stored vs k u):=by
 unfold Yq stored;rw [r.any k]
 by_cases e:(vs.any λkv=>decide (kv.1=k))=true
 · rw [if_pos e,if_pos e];exact r.repl k ry
 · rw [if_neg e,if_neg e];exact Paired.snoc r ⟨rfl,ry⟩
theorem KV.drop{kvs:List (κ×V)}{vs:List (κ×Value)}(r:KV kvs vs)(k:κ):KV (Zhj kvs k) (without vs k):=by
 unfold KV at r ⊢;unfold Zhj without
 induction r with
 |nil=>exact .nil
 | @cons p q ps qs h t ih=>
  obtain⟨h1,h2⟩:=h;rw [List.filter_cons,List.filter_cons]
  by_cases e:p.1=k
  · have a:¬decide (p.1≠k)=true:=by simp [e]
    have b:¬decide (q.1≠k)=true:=by simp [h1.symm.trans e]
    rw [if_neg a,if_neg b];exact ih
  · have e':¬q.1=k:=λz=>e (h1.trans z)
    have a:decide (p.1≠k)=true:=by simp [e]
    have b:decide (q.1≠k)=true:=by simp [e']
    rw [if_pos a,if_pos b];exact .cons ⟨h1,h2⟩ ih
theorem KV.length{kvs:List (κ×V)}{vs:List (κ×Value)}(r:KV kvs vs):kvs.length=vs.length:=Paired.length r
end
theorem U7{P:Program}{w:World}{k:Key}{u:Value}(r:RelV (kV k) u):(YT P w).is k u=true:=by
 cases k with
 |inl i=>obtain⟨t,e⟩:=(show ∃t,u=Value.int i t from r);subst e;exact Zbq P w i t
 |inr x=>obtain⟨t,e⟩:=(show ∃t,u=Value.str x t from r);subst e;exact Zbr P w x t
theorem ZaX{P:Program}{w:World}:∀{ks:List Key}{us:List Value},Vals (ks.map kV) us->ItemsAre (YT P w) ks us
 | [],_,r=>by rw [List.map_nil]at r;cases r;exact .nil
 |k::ks,_,r=>by
  rw [List.map_cons]at r;cases r with
  |cons h t=>exact .cons (U7 h) (ZaX t)
abbrev KT(H:Hp):List (List Key×V)->List (List Key×Addr×Value)->Prop:=Paired λp q=>p.1=q.1/\H q.2.1=some (.tup (p.1.map kV))/\RelV p.2 q.2.2
theorem KT.val{H:Hp}{kvs:List (List Key×V)}{xs:List (List Key×Addr×Value)}(r:KT H kvs xs)(k:List Key):RelO (Y9 kvs k) ((atKey xs k).map (·.2)):=by
 induction r with
 |nil=>exact True.intro
 | @cons p q ps qs h t ih=>
  obtain⟨h1,_,h2⟩:=h
  by_cases e:p.1=k
  · have e':q.1=k:=h1.symm.trans e
    have b:atKey (q::qs) k=some q.2:=by simp [atKey,List.find?_cons,e']
    rw [QS e,b];exact h2
  · have e':¬q.1=k:=λz=>e (h1.trans z)
    have b:atKey (q::qs) k=atKey qs k:=by simp [atKey,List.find?_cons,e']
    rw [QT e,b];exact ih
theorem KT.repl{H:Hp}{kvs:List (List Key×V)}{xs:List (List Key×Addr×Value)}(r:KT H kvs xs)(k:List Key){y:V}{u:Value}(ry:RelV y u) :
 KT H (kvs.map λkv=>if kv.1=k then(kv.1,y)else kv) (xs.map (putAt k u)):=by
 induction r with
 |nil=>exact .nil
 | @cons p q ps qs h t ih=>
  rw [List.map_cons,List.map_cons];refine .cons ?_ ih;obtain⟨h1,h2,h3⟩:=h;unfold putAt
  by_cases e:p.1=k
  · rw [if_pos e,if_pos (h1.symm.trans e)];exact⟨h1,h2,ry⟩
  · rw [if_neg e,if_neg (λz=>e (h1.trans z))];exact⟨h1,h2,h3⟩
theorem KT.put{H:Hp}{kvs:List (List Key×V)}{xs:List (List Key×Addr×Value)}(r:KT H kvs xs)(k:List Key){b:Addr}{y:V}{u:Value}(hb:H b=some (.tup (k.map kV)))(ry:RelV y u) :
 KT H (Yq kvs k y) (storedH xs k b u):=by
 have e:(kvs.any λkv=>decide (kv.1=k))=(atKey xs k).isSome:=by
  rw [J5,(r.val k).isSome_eq,Option.isSome_map]
 unfold Yq storedH;rw [e]
 by_cases q:(atKey xs k).isSome=true
 · rw [if_pos q,if_pos q];exact r.repl k ry
 · rw [if_neg q,if_neg q];exact Paired.snoc r ⟨rfl,hb,ry⟩
theorem KT.keeps{H H':Hp}{kvs:List (List Key×V)}{xs:List (List Key×Addr×Value)}(r:KT H kvs xs)(ht:∀b ys,H b=some (.tup ys)->H' b=some (.tup ys)):KT H' kvs xs:=
 Paired.mapP r λ_ _ z=>⟨z.1,ht _ _ z.2.1,z.2.2⟩
section
variable{P:Program}{w:World}{H:Hp}{h:Heap}{a:Addr}
theorem Zhk{u:HO}(ok:HOk P w H h)(e:Rd H a u):ObjOk P w H h a u:=e.ok ok
theorem QU{kvs:List (Key×V)}(ok:HOk P w H h)(e:Rd H a (.dK kvs)):kvs.length<=sizeLine/\(a == sysModules)=false/\∃vs,KV kvs vs/\h.DictOf (YT P w) a vs:=
 show ObjOk P w H h a (.dK kvs)from Zhk ok e
theorem Zhl{kvs:List (Key×V)}(ok:HOk P w H h)(e:H a=some (.dK kvs)):kvs.length<=sizeLine/\(a == sysModules)=false/\∃vs,KV kvs vs/\h.DictOf (YT P w) a vs:=QU ok (.inl e)
theorem QV{ks:List Key}(ok:HOk P w H h)(e:H a=some (.tup (ks.map kV))):(tupleKind (YT P w)).is h ks a:=by
 obtain⟨_,its,r,o,h1,h2,⟨n,h3⟩,_⟩:=(show ObjOk P w H h a (.tup (ks.map kV))from ok a _ e)
 exact⟨o,its.toArray,n,h1,h2,h3,by simpa using ZaX r⟩
theorem QW{kvs:List (List Key×V)}(ok:HOk P w H h)(e:Rd H a (.dT kvs)):kvs.length<=sizeLine/\(a == sysModules)=false /\
 ∃xs,KT H kvs xs/\h.DictOfH (tupleKind (YT P w)) a xs:=by
 obtain⟨z,y,xs,r,o,es,ep,h1,h2,h3,h4,h5⟩:=(show ObjOk P w H h a (.dT kvs)from Zhk ok e)
 refine⟨z,y,xs,r,o,es,ep,h1,h2,h3,h4,λx hx => ?_,h5⟩
 have all:∀{l:List (List Key×V)}{m:List (List Key×Addr×Value)},KT H l m->∀x∈m,(tupleKind (YT P w)).is h x.1 x.2.1:=by
  intro l m q
  induction q with
  |nil=>intro x hx;exact nomatch hx
  | @cons p q ps qs hq t ih=>
   intro x hx;rcases List.mem_cons.mp hx with e|hx
   · subst e
     exact QV ok (by rw [<-hq.1];exact hq.2.1)
   · exact ih x hx
 exact all r x hx
theorem Zi1{kvs:List (List Key×V)}(ok:HOk P w H h)(e:H a=some (.dT kvs)):kvs.length<=sizeLine/\(a == sysModules)=false /\
 ∃xs,KT H kvs xs/\h.DictOfH (tupleKind (YT P w)) a xs:=QW ok (.inl e)
end
def DGet(H:Hp)(a:Addr)(y:V)(r:Option V):Prop:=
 (∃kvs k,Rd H a (.dK kvs)/\y=kV k/\r=Y9 kvs k)\/∃kvs k b,Rd H a (.dT kvs)/\y = .ref b/\H b=some (.tup (k.map kV))/\r=Y9 kvs k
def DPut(H:Hp)(a:Addr)(y v:V)(H':Hp):Prop:=
 (∃kvs k,H a=some (.dK kvs)/\y=kV k/\kvs.length<sizeLine/\H'=upd H a (.dK (Yq kvs k v))) \/
 ∃kvs k b,H a=some (.dT kvs)/\y = .ref b/\H b=some (.tup (k.map kV))/\kvs.length<sizeLine/\H'=upd H a (.dT (Yq kvs k v))
theorem DGet.k{H:Hp}{a:Addr}{kvs:List (Key×V)}{k:Key}(e:H a=some (.dK kvs)):DGet H a (kV k) (Y9 kvs k) := .inl ⟨kvs,k,.inl e,rfl,rfl⟩
theorem DGet.t{H:Hp}{a b:Addr}{kvs:List (List Key×V)}{k:List Key}(e:H a=some (.dT kvs))(eb:H b=some (.tup (k.map kV))):DGet H a (.ref b) (Y9 kvs k) := .inr ⟨kvs,k,b,.inl e,rfl,eb,rfl⟩
theorem DPut.k{H:Hp}{a:Addr}{kvs:List (Key×V)}{k:Key}{v:V}(e:H a=some (.dK kvs))(hl:kvs.length<sizeLine):DPut H a (kV k) v (upd H a (.dK (Yq kvs k v))) := .inl ⟨kvs,k,e,rfl,hl,rfl⟩
theorem DPut.t{H:Hp}{a b:Addr}{kvs:List (List Key×V)}{k:List Key}{v:V}(e:H a=some (.dT kvs))(eb:H b=some (.tup (k.map kV)))(hl:kvs.length<sizeLine) :
 DPut H a (.ref b) v (upd H a (.dT (Yq kvs k v))) := .inr ⟨kvs,k,b,e,rfl,eb,hl,rfl⟩
section
variable{X:Cx}{pins:List (Addr×Obj)}{σ:St}{H:Hp}{s:Shared}{a:Addr}{y v:V}{u r:Value}{o:Option V}{A:Around}{E:Value->Shared->Prop}
theorem Inv.big(I:Inv X pins σ H s):sysModules<s.heap.objs.size:=by
 have h:mainGlobals<s.heap.objs.size:=(I.mod.glob.keeps I.bk).lt;exact Nat.lt_trans (by decide) h
theorem ZdS{Q:Value->Shared->Prop}(hu:A.units+1<cLine)(I:Inv X pins σ H s)(g:DGet H a y (some v))(ry:RelV y u)(h:∀w' s',Inv X pins σ H s'->RelV v w'->Q w' s') :
 wpAny (model X.prog X.w) A (getItem (.ref a) u) Q E s:=by
 rcases g with⟨kvs,k,e,ey,l⟩|⟨kvs,k,b,e,ey,eb,l⟩
 · subst ey
   obtain⟨z,hd,vs,rel,dd⟩:=QU I.hok e;obtain⟨w',hw,rw'⟩:=RelO.some_of (v:=v) (o:=valueAt vs k) (by rw [l];exact rel.val k);exact wpAny_getItem_of (U7 ry) dd.mapOf hw (h w' _ (I.tok _) rw')
 · subst ey
   cases(show u=Value.ref b from ry);obtain⟨z,hd,xs,rel,dd⟩:=QW I.hok e;obtain⟨w',hw,rw'⟩:=RelO.some_of (v:=v) (o:=(atKey xs k).map (·.2)) (by rw [l];exact rel.val k);obtain⟨p,hp,hp2⟩:=Option.map_eq_some_iff.mp hw;refine wpAny_getItem_heap (tupleKind_room_in1 hu) (QV I.hok eb) dd hp ?_;rw [hp2];exact h w' _ (I.tok _) rw'
theorem Zf6{Q:Value->Shared->Prop}(hu:A.units+1<cLine)(I:Inv X pins σ H s)(g:DGet H a y o)(ry:RelV y u)(h:∀s',Inv X pins σ H s'->Q (.bool (!o.isSome)) s') :
 wpAny (model X.prog X.w) A (compareOp .NotIn u (.ref a)) Q E s:=by
 rcases g with⟨kvs,k,e,ey,l⟩|⟨kvs,k,b,e,ey,eb,l⟩
 · subst ey
   obtain⟨z,hd,vs,rel,dd⟩:=QU I.hok e;refine wpAny_notIn_of (U7 ry) hd dd.mapOf ?_;rw [<-(rel.val k).isSome_eq,<-l];exact h _ (I.tok _)
 · subst ey
   cases(show u=Value.ref b from ry);obtain⟨z,hd,xs,rel,dd⟩:=QW I.hok e;refine wpAny_notIn_heap (tupleKind_room_in1 hu) (QV I.hok eb) hd dd ?_;have q:=(rel.val k).isSome_eq;rw [Option.isSome_map]at q;rw [<-q,<-l];exact h _ (I.tok _)
theorem J7{h':Heap}{t':Nat}{ob:HO}(I:Inv X pins σ H s)(mu:Mut (H a))(hs:Heap.SameBut a s.heap h')(he:∃q,h'.get? a=some q)(new:ObjOk X.prog X.w (upd H a ob) h' a ob) :
 Inv X pins σ (upd H a ob) { s with heap:=h',toks:=t' }:=
 I.write (x:=a) (e:=a) mu (.inl rfl) (λb q hb z=>(hs.2 b hb).trans z) he new
theorem Zfk{P:Program}{w:World}{H':Hp}{h':Heap}{kvs:List (Key×V)}{vs:List (Key×Value)}(z:kvs.length<=sizeLine)(hd:(a == sysModules)=false)(rel:KV kvs vs)(dd:h'.DictOf (YT P w) a vs) :
 ObjOk P w H' h' a (.dK kvs):=⟨z,hd,vs,rel,dd⟩
theorem ZdT{H':Hp}{Q:Unit->Shared->Prop}(hu:A.units+1<cLine)(I:Inv X pins σ H s)(g:DPut H a y v H')(ry:RelV y u)(rv:RelV v r)(h:∀s',Inv X pins σ H' s'->Q () s') :
 wpAny (model X.prog X.w) A (setItem (.ref a) u r) Q E s:=by
 rcases g with⟨kvs,k,e,ey,l,eH⟩|⟨kvs,k,b,e,ey,eb,l,eH⟩
 · subst ey eH
   obtain⟨z,hd,vs,rel,dd⟩:=Zhl I.hok e;have hz:vs.length<=sizeLine:=by rw [<-rel.length];exact z
   have hl:(Yq kvs k v).length<=sizeLine:=by have:=J6 kvs k v;omega
   refine wpAny_setItem_pairs (hsz:=hz) (U7 ry) dd λh' dd' hs=>h _ ?_
   have he:∃q,h'.get? a=some q:=let⟨q,_,_,hq,_⟩:=dd';⟨q,hq⟩
   exact J7 I (by rw [e];exact True.intro) hs he (Zfk hl hd (rel.put k rv) dd')
 · subst ey eH
   cases(show u=Value.ref b from ry);obtain⟨z,hd,xs,rel,dd⟩:=Zi1 I.hok e;have hz:xs.length<=sizeLine:=by rw [<-Paired.length rel];exact z
   have hl:(Yq kvs k v).length<=sizeLine:=by have:=J6 kvs k v;omega
   refine wpAny_setItem_heap (hsz:=hz) (tupleKind_room_in1 hu) (QV I.hok eb) dd λh' dd' hs=>h _ ?_
   obtain⟨q,es,ep,hq,h2,h3,h4,_,h5⟩:=dd';refine J7 I (by rw [e];exact True.intro) hs ⟨q,hq⟩ ⟨hl,hd,_,(rel.put k eb rv).keeps λc ys ec => ?_,q,es,ep,hq,h2,h3,h4,h5⟩;rw [Zs (ZiS ec e (λz=>nomatch z))];exact ec
end
section
variable{X:Cx}{pins:List (Addr×Obj)}{σ:St}{H:Hp}{s:Shared}{a:Addr}{kvs:List (Key×V)}{k:Key}{u:Value}{A:Around}{E:Value->Shared->Prop}
end
def Zku(i:Expr):Prop:=∀ov iv,subscripted i false ov iv=operate [ov,iv] (getItem ov iv)
theorem Zf7 {prog:Program} {w:World} {A:Around} {E:Value->Shared->Prop} {s:Shared} {env:Env} {value slice:Expr} {pos:Pos} {T id:String} {Q:Value->Shared->Prop}
 (hl:typeLookup (.type T) "__getitem__" = pure (some (.builtin id))) (hs:Zku slice)
 (h:wpAny (model prog w) A (eval value env) (λo s₁=>wpAny (model prog w) A (eval slice env) (λi s₂=>s₂.TypeIs o T/\wpAny (model prog w) A (getItem o i) Q E s₂) E s₁) E s) :
 wpAny (model prog w) A (eval (.Subscript value slice pos) env) Q E s:=by
 refine Subscript_ (wpAny_mono h (λo s₁ h₁=>wpAny_mono h₁ (λi s₂ h₂ => ?_) λ_ _ x=>x) λ_ _ x=>x);obtain⟨hT,h₂⟩:=h₂;unfold subscriptTail;refine wpAny_bind ?_;rw [getitemInPython_of_ne hT.not_modules];refine wpAny_bind (wpAny_specialOf hT hl ?_)
 have fin:wpAny (model prog w) A (subscripted slice false o i) (λr s₃=>wpAny (model prog w) A (letTemporaryGo value o r >>= λ_=>pure r) Q E s₃) E s₂:=by
  rw [hs o i];exact wpAny_operating (wpAny_mono h₂ (λr s₃ h₃=>wpAny_bind (wpAny_letTemporaryGo (wpAny_pure h₃))) λ_ _ x=>x)
 first
  |exact wpAny_pure (wpAny_bind fin)
  |exact wpAny_bind (wpAny_pure (wpAny_bind fin))
  |exact wpAny_bind fin
theorem Zbu{X:Cx}{pins:List (Addr×Obj)}{σ:St}{H:Hp}{s:Shared}{a:Addr}{y:V}{o:Option V}(I:Inv X pins σ H s)(g:DGet H a y o):s.TypeIs (.ref a) "dict" := by
 rcases g with⟨kvs,k,e,_,_⟩|⟨kvs,k,b,e,_,_,_⟩
 · obtain⟨_,_,vs,_,dd⟩:=QU I.hok e
   exact dd.typeIs
 · obtain⟨_,_,xs,_,dd⟩:=QW I.hok e
   exact dd.typeIs
def Zhm(td ty:TE):TE:=λσ H Q=>td σ H λx H1=>ty σ H1 λy H2=>∃a v,x = .ref a/\DGet H2 a y (some v)/\Q v H2
def ZcW(ty td:TE):TE:=λσ H Q=>ty σ H λy H1=>td σ H1 λx H2=>∃a o,x = .ref a/\DGet H2 a y o/\Q (.bl (!o.isSome)) H2
def J8(td ty tv:TE):TS:=λD σ H=>tv σ H λv H1=>td σ H1 λx H2=>ty σ H2 λy H3=>∃a H4,x = .ref a/\DPut H3 a y v H4/\D.nx σ H4
section
variable{X:Cx}{o i e value:Expr}{pos pos' tpos:Pos}{td ty tv:TE}
theorem ZcX(hu:X.A.units+1<cLine)(ho:PE X o td)(hi:PE X i ty)(hs:Zku i):PE X (.Subscript o i pos) (Zhm td ty):=by
 intro pins s σ H Q I h;refine Zf7 PySem.F.slot_dict_getitem.lookup hs (thn (ho pins s σ H _ I h) λu s1 ⟨x,H1,I1,rx,q1⟩=>thn (hi pins s1 σ H1 _ I1 q1) λiv s2 ⟨y,H2,I2,ry,a,v,ex,g,q2⟩ => ?_);subst ex;obtain rfl:u=Value.ref a:=rx;exact⟨Zbu I2 g,ZdS hu I2 g ry λw' s3 I3 rw'=>⟨v,H2,I3,rw',q2⟩⟩
theorem ZdU(hu:X.A.units+1<cLine)(hi:PE X i ty)(ho:PE X o td):PC X .NotIn i o (ZcW ty td):=by
 intro pins s σ H Q I h;refine thn (hi pins s σ H _ I h) λiv s1 ⟨y,H1,I1,ry,q1⟩=>thn (ho pins s1 σ H1 _ I1 q1) λu s2 ⟨x,H2,I2,rx,a,ov,ex,g,q2⟩ => ?_
 subst ex;obtain rfl:u=Value.ref a:=rx;exact Zf6 hu I2 g ry λs3 I3=>⟨.bl (!ov.isSome),H2,I3,rfl,q2⟩
theorem J9(hu:X.A.units+1<cLine)(ho:PE X o td)(hi:PE X i ty)(hv:PE X value tv)(hs:swapsWith value (some (.Subscript o i pos')) pos.line X.env=pure false) :
 PS X (.Assign [.Subscript o i pos'] value pos) (J8 td ty tv):=by
 intro pins s σ H D I h;refine wpAny_Assign_Subscript (thn (hv pins s σ H _ I h) λr s1 ⟨v,H1,I1,rv,q1⟩=>thn (ho pins s1 σ H1 _ I1 q1) λu s2 ⟨x,H2,I2,rx,q2⟩=>thn (hi pins s2 σ H2 _ I2 q2) λiv s3 ⟨y,H3,I3,ry,a,H4,ex,g,q3⟩ => ?_) hs;subst ex;obtain rfl:u=Value.ref a:=rx;exact ZdT hu I3 g ry rv λs4 I4=>⟨σ,H4,I4,q3⟩
end
theorem Zew{P:Program}{w:World}{H:Hp}(h:Heap)(hb:sysModules<h.objs.size):ObjOk P w H (h.push { cls := .type "dict",data := .dict #[] }) h.objs.size (.dK []):=
 ⟨Nat.zero_le _,beq_eq_false_iff_ne.mpr (Ne.symm (Nat.ne_of_lt hb)),[],.nil,Heap.DictOf.new h⟩
theorem Zex{P:Program}{w:World}{H:Hp}(h:Heap)(hb:sysModules<h.objs.size):ObjOk P w H (h.push { cls := .type "dict",data := .dict #[] }) h.objs.size (.dT []):=
 ⟨Nat.zero_le _,beq_eq_false_iff_ne.mpr (Ne.symm (Nat.ne_of_lt hb)),[],.nil,_,#[],0,Heap.get?_push_size _ rfl,⟨rfl,rfl,rfl⟩,rfl,rfl,List.nodup_nil⟩
def tDNewT:TE:=λ_ H Q=>∀p,H p=none->Q (.ref p) (upd H p (.dT []))
section
variable{X:Cx}{pos:Pos}
theorem ZbH:PE X (.Dict [] [] pos) tDNewT:=λpins s σ H Q I h=>
 wpAny_Dict_empty ⟨.ref s.heap.objs.size,_,I.laid (a:=s.heap.objs.size) (o:=.dT []) (t':=s.toks) (λ_ _ q=>Heap.get?_push_of_some _ q) (Nat.le_refl _) (Zex s.heap I.big),rfl,h _ (I.hok.fresh (Nat.le_refl _))⟩
end
def Zcx:List (TE×TE)->St->Hp->(List (V×V)->Hp->Prop)->Prop
 | [],_,H,Q=>Q [] H
 |(tk,tv)::r,σ,H,Q=>tk σ H λx H1=>tv σ H1 λy H2=>Zcx r σ H2 λps H3=>Q ((x,y)::ps) H3
abbrev VV:List (V×V)->List (Value×Value)->Prop:=Paired λp q=>RelV p.1 q.1/\RelV p.2 q.2
def PPs(X:Cx)(pos:Pos)(keys:List (Option Expr))(values:List Expr)(trs:List (TE×TE)):Prop:=
 ∀(pins:List (Addr×Obj))(s:Shared)(σ:St)(H:Hp)(Q:List (V×V)->Hp->Prop),Inv X pins σ H s->Zcx trs σ H Q ->
  wpAny (model X.prog X.w) X.A (evalPairs (pairTrees keys values X.env pos)) (λvs s'=>∃ps H',Inv X pins σ H' s'/\VV ps vs/\Q ps H') X.xe s
theorem Zf8{X:Cx}{pos:Pos}:PPs X pos [] [] []:=λpins s σ H Q I h=>pairTrees_nil_walk ⟨[],H,I,.nil,h⟩
theorem Zey{X:Cx}{pos:Pos}{k v:Expr}{ks:List (Option Expr)}{vs:List Expr}{tk tv:TE}{trs:List (TE×TE)}(hk:PE X k tk)(hv:PE X v tv)(hr:PPs X pos ks vs trs) :
 PPs X pos (some k::ks) (v::vs) ((tk,tv)::trs):=λpins s σ H Q I h=>
 pairTrees_cons_walk (thn (hk pins s σ H _ I h) λu s1 ⟨x,H1,I1,rx,q1⟩=>thn (hv pins s1 σ H1 _ I1 q1) λw2 s2 ⟨y,H2,I2,ry,q2⟩=>
  thn (hr pins s2 σ H2 _ I2 q2) λws s3 ⟨ps,H3,I3,rel,q3⟩=>⟨(x,y)::ps,H3,I3,.cons ⟨rx,ry⟩ rel,q3⟩)
def UB(kvs more:List (Key×V)):List (Key×V):=more.foldl (λacc kv=>Yq acc kv.1 kv.2) kvs
theorem KV.merge:∀{more:List (Key×V)}{rs:List (Key×Value)}{kvs:List (Key×V)}{vs:List (Key×Value)},KV more rs->KV kvs vs->KV (UB kvs more) (merged vs rs):=by
 intro more rs kvs vs r;unfold KV at r
 induction r generalizing kvs vs with
 |nil=>intro q;exact q
 | @cons p q ps qs h t ih=>
  intro r0
  have e:KV (Yq kvs p.1 p.2) (stored vs q.1 q.2):=by
   have:=r0.put p.1 h.2;rw [<-h.1];exact this
  exact ih e
theorem Zad:∀(more kvs:List (Key×V)),(UB kvs more).length<=kvs.length+more.length
 | [],kvs=>by show kvs.length<=kvs.length+0;omega
 |p::r,kvs=>by
  have h1:=Zad r (Yq kvs p.1 p.2);have h2:=J6 kvs p.1 p.2;show(UB (Yq kvs p.1 p.2) r).length<=_;rw [List.length_cons];omega
theorem Zav{P:Program}{w:World}:∀{kvs:List (Key×V)}{ws:List (Value×Value)},VV (kvs.map λkv=>(kV kv.1,kv.2)) ws->∃rs,Carries (YT P w) ws rs/\KV kvs rs
 | [],_,r=>by rw [List.map_nil]at r;cases r;exact⟨[],True.intro,.nil⟩
 |p::kvs,_,r=>by
  rw [List.map_cons]at r;cases r with
  | @cons a b as bs h t=>
   obtain⟨rs,c,q⟩:=Zav (P:=P) (w:=w) t;obtain⟨b1,b2⟩:=b;exact⟨(p.1,b2)::rs,⟨U7 h.1,rfl,c⟩,.cons ⟨rfl,h.2⟩ q⟩
def Zhn(trs:List (TE×TE)):TE:=λσ H Q=>∀p,H p=none->Zcx trs σ (upd H p (.dK [])) λps H2=>H2 p=some (.dK [])/\∃kvs:List (Key×V),ps=kvs.map (λkv=>(kV kv.1,kv.2))/\kvs.length<=15/\Q (.ref p) (upd H2 p (.dK (UB [] kvs)))
theorem Zf9 {X:Cx} {pos:Pos} {keys:List (Option Expr)} {values:List Expr} {trs:List (TE×TE)} (h:PPs X pos keys values trs) (hall:keys.all (·.isSome)=true) (hl:keys.length=values.length) (h0:keys≠[])
 (h15:keys.length<=15):PE X (.Dict keys values pos) (Zhn trs):=by
 intro pins s σ H Q I q;have hn:=I.hok.fresh (Nat.le_refl s.heap.objs.size);have I1:=I.laid (a:=s.heap.objs.size) (o:=.dK []) (h':=s.heap.push { cls := .type "dict",data := .dict #[] }) (t':=s.toks) (λ_ _ q=>Heap.get?_push_of_some _ q) (Nat.le_refl _) (Zew s.heap I.big);refine wpAny_Dict_walk (knd:=YT X.prog X.w) hall hl h0 h15 (thn (h pins _ σ _ _ I1 (q _ hn)) λws s2 ⟨ps,H2,I2,rel,e,kvs,ep,lk,q2⟩ => ?_)
 subst ep;obtain⟨rs,c,rk⟩:=Zav (P:=X.prog) (w:=X.w) rel;obtain⟨z,hd,vs0,r0,dd⟩:=Zhl I2.hok e;cases r0;refine⟨rs,c,dd,λh' dd' hs=>⟨.ref s.heap.objs.size,_,?_,rfl,q2⟩⟩
 have hz:(UB [] kvs).length<=sizeLine:=by
  have h1:=Zad kvs [];rw [List.length_nil]at h1;rw [sizeLine_eq];omega
 have he:∃q,h'.get? s.heap.objs.size=some q:=let⟨q,_,_,hq,_⟩:=dd';⟨q,hq⟩
 exact J7 I2 (by rw [e];exact True.intro) hs he (Zfk hz hd (rk.merge .nil) dd')
structure M1(X:Cx)(o:Expr)(m:Str)(apos:Pos)(e:Expr)(cpos:Pos):Prop where
 base:attributeBase o m X.env (eval o X.env)=eval o X.env
 few:((backTo cpos (starEach [e] X.env)).all (λx => !x.1)&&(backToKw cpos (keywordEach [] X.env)).all (λx=>x.1.isSome)
  && decide (([e]:List Expr).length+([]:List Keyword).length+(if([]:List Keyword).isEmpty then 0 else 1)<30))=true
 line:(apos.endLine == cpos.line)=true
 trees:backTo cpos (starEach [e] X.env)=[(false,eval e X.env)]
structure M2(X:Cx)(o:Expr)(m:Str)(apos:Pos)(e f:Expr)(cpos:Pos):Prop where
 base:attributeBase o m X.env (eval o X.env)=eval o X.env
 few:((backTo cpos (starEach [e,f] X.env)).all (λx => !x.1)&&(backToKw cpos (keywordEach [] X.env)).all (λx=>x.1.isSome)
  && decide (([e,f]:List Expr).length+([]:List Keyword).length+(if([]:List Keyword).isEmpty then 0 else 1)<30))=true
 line:(apos.endLine == cpos.line)=true
 trees:backTo cpos (starEach [e,f] X.env)=[(false,eval e X.env),(false,eval f X.env)]
section
variable{X:Cx}{pins:List (Addr×Obj)}{σ:St}{H:Hp}{s:Shared}{a:Addr}{y d:V}{u r:Value}{o:Option V}{A:Around}{E:Value->Shared->Prop}
end
section
variable{X:Cx}{o e f:Expr}{apos cpos:Pos}{td ty tx:TE}
end
section
variable{X:Cx}{pins:List (Addr×Obj)}{σ:St}{H:Hp}{s:Shared}{a:Addr}{kvs:List (Key×V)}{A:Around}{E:Value->Shared->Prop}
end
section
variable{X:Cx}{pins:List (Addr×Obj)}{σ:St}{H:Hp}{s:Shared}{a:Addr}{y:V}{u:Value}{A:Around}{E:Value->Shared->Prop}
end
end L2
namespace DL
open PySem PySem.Spec L2
inductive D where
 |non
 |bl (b:Bool)
 |int (i:Int)
 |str (cs:List Nat)
 |lst (xs:List D)
 |tup (xs:List D)
 |obj (c:String) (ks:List String) (xs:List D)
 |dct (ks:List Key) (xs:List D)
 |dtt (ks:List (List Key)) (xs:List D)
def KL(K:PySem.W.Frag)(a:Addr)(vs:List V):Prop:=∃(o:Obj) (its:Array Value) (n:Nat),K.lookup a=some o/\o.cls = .type "list" /\ o.dict=none/\o.data = .seq its n/\its.size<=sizeLine/\Vals vs its.toList
structure Kn where
 c:String->Addr
 K:PySem.W.Frag
def Zx:D->Bool
 | .non=>true
 | .bl _=>true
 | .int _=>true
 | .str _=>true
 |_=>false
mutual
def Rep(cA:Kn)(av:Addr->Prop)(H:Hp):D->V->Prop
 | .non,v=>v = .non
 | .bl b,v=>v = .bl b
 | .int i,v=>v = .int i
 | .str cs,v=>v=S cs
 | .lst xs,v=>∃a vs,v = .ref a/\(av a->KL cA.K a vs)/\SqL cA.K H a vs/\RepL cA av H xs vs
 | .tup xs,v=>∃a vs,v = .ref a/\¬av a/\H a=some (.tup vs)/\RepL cA av H xs vs
 | .obj c ks xs,v=>∃a dx vs,v = .ref a/\¬av a/\H a=some (.ins (cA.c c) dx ((ks.map Str.ofString).zip vs))/\ks.length=xs.length/\RepL cA av H xs vs
 | .dct ks xs,v=>∃a vs,v = .ref a/\¬av a/\H a=some (.dK (ks.zip vs))/\ks.length=xs.length/\RepL cA av H xs vs
 | .dtt ks xs,v=>∃a vs,v = .ref a/\¬av a/\H a=some (.dT (ks.zip vs))/\ks.length=xs.length/\RepL cA av H xs vs
def RepL(cA:Kn)(av:Addr->Prop)(H:Hp):List D->List V->Prop
 | [],vs=>vs=[]
 |x::xs,vs=>∃v r,vs=v::r/\Rep cA av H x v/\RepL cA av H xs r
end
section
variable{cA:Kn}{G:Cn}{av av':Addr->Prop}{H H':Hp}
theorem Rd.ext{a:Addr}{u:HO}(h:Rd H a u)(k:∀o,H a=some o->H' a=some o):Rd H' a u:=by
 rcases h with h|⟨o,h⟩
 · exact .inl (k _ h)
 · exact .inr ⟨o,k _ h⟩
theorem Rd.there{a:Addr}{u:HO}(h:Rd H a u):H a≠none:=by
 rcases h with h|⟨o,h⟩<;>rw [h]<;>exact λz=>by cases z
theorem Zfl{K:PySem.W.Frag}{a:Addr}{vs:List V}(n:av a->KL K a vs)(r:SqL K H a vs)(k:∀b o,¬av b->H b=some o->H' b=some o):SqL K H' a vs:=by
 by_cases h:av a
 · exact .inr (n h)
 · rcases r with r|r
   · exact .inl (Rd.ext r λo=>k a o h)
   · exact .inr r
theorem Zi2{K:PySem.W.Frag}{a:Addr}{vs:List V}(n:av a->KL K a vs)(r:SqL K H a vs)(k:∀b,av' b->av b\/H b=none):av' a->KL K a vs:=λz=>by
 rcases k a z with z|z
 · exact n z
 · rcases r with r|r
   · exact absurd z (Rd.there r)
   · exact r
mutual
theorem Rep.ext:∀{d:D}{v:V},(∀b o,¬av b->H b=some o->H' b=some o)->Rep cA av H d v->Rep cA av H' d v
 | .non,_,_,h=>h
 | .bl _,_,_,h=>h
 | .int _,_,_,h=>h
 | .str _,_,_,h=>h
 | .lst xs,v,k,h=>by
  unfold Rep at h ⊢;obtain⟨a,vs,e,n,r,l⟩:=h;exact⟨a,vs,e,n,Zfl n r k,RepL.ext k l⟩
 | .tup xs,v,k,h=>by
  unfold Rep at h ⊢;obtain⟨a,vs,e,n,r,l⟩:=h;exact⟨a,vs,e,n,k a _ n r,RepL.ext k l⟩
 | .obj c ks xs,v,k,h=>by
  unfold Rep at h ⊢;obtain⟨a,dx,vs,e,n,r,z,l⟩:=h;exact⟨a,dx,vs,e,n,k a _ n r,z,RepL.ext k l⟩
 | .dct ks xs,v,k,h=>by
  unfold Rep at h ⊢;obtain⟨a,vs,e,n,r,z,l⟩:=h;exact⟨a,vs,e,n,k a _ n r,z,RepL.ext k l⟩
 | .dtt ks xs,v,k,h=>by
  unfold Rep at h ⊢;obtain⟨a,vs,e,n,r,z,l⟩:=h;exact⟨a,vs,e,n,k a _ n r,z,RepL.ext k l⟩
theorem RepL.ext:∀{xs:List D}{vs:List V},(∀b o,¬av b->H b=some o->H' b=some o)->RepL cA av H xs vs->RepL cA av H' xs vs
 | [],_,_,h=>h
 |x::xs,vs,k,h=>by
  unfold RepL at h ⊢;obtain⟨v,r,e,h1,h2⟩:=h;exact⟨v,r,e,Rep.ext k h1,RepL.ext k h2⟩
end
mutual
theorem Rep.av:∀{d:D}{v:V},(∀b,av' b->av b\/H b=none)->Rep cA av H d v->Rep cA av' H d v
 | .non,_,_,h=>h
 | .bl _,_,_,h=>h
 | .int _,_,_,h=>h
 | .str _,_,_,h=>h
 | .lst xs,v,k,h=>by
  unfold Rep at h ⊢;obtain⟨a,vs,e,n,r,l⟩:=h;exact⟨a,vs,e,Zi2 n r k,r,RepL.av k l⟩
 | .tup xs,v,k,h=>by
  unfold Rep at h ⊢;obtain⟨a,vs,e,n,r,l⟩:=h;exact⟨a,vs,e,λz=>(k a z).elim n (by rw [r];exact λz=>by cases z),r,RepL.av k l⟩
 | .obj c ks xs,v,k,h=>by
  unfold Rep at h ⊢;obtain⟨a,dx,vs,e,n,r,z,l⟩:=h;exact⟨a,dx,vs,e,λy=>(k a y).elim n (by rw [r];exact λz=>by cases z),r,z,RepL.av k l⟩
 | .dct ks xs,v,k,h=>by
  unfold Rep at h ⊢;obtain⟨a,vs,e,n,r,z,l⟩:=h;exact⟨a,vs,e,λy=>(k a y).elim n (by rw [r];exact λz=>by cases z),r,z,RepL.av k l⟩
 | .dtt ks xs,v,k,h=>by
  unfold Rep at h ⊢;obtain⟨a,vs,e,n,r,z,l⟩:=h;exact⟨a,vs,e,λy=>(k a y).elim n (by rw [r];exact λz=>by cases z),r,z,RepL.av k l⟩
theorem RepL.av:∀{xs:List D}{vs:List V},(∀b,av' b->av b\/H b=none)->RepL cA av H xs vs->RepL cA av' H xs vs
 | [],_,_,h=>h
 |x::xs,vs,k,h=>by
  unfold RepL at h ⊢;obtain⟨v,r,e,h1,h2⟩:=h;exact⟨v,r,e,Rep.av k h1,RepL.av k h2⟩
end
theorem Rep.scal{d:D}{v:V}(hs:Zx d=true)(h:Rep cA av H d v):Rep cA av' H' d v:=by
 cases d<;>first|exact h|cases hs
theorem Rep.same{d:D}{v:V}(k:Same H H')(h:Rep cA av H d v):Rep cA av H' d v:=h.ext λb o _=>k b o
theorem RepL.same{xs:List D}{vs:List V}(k:Same H H')(h:RepL cA av H xs vs):RepL cA av H' xs vs:=h.ext λb o _=>k b o
theorem RepL.nil:RepL cA av H [] []:=by unfold RepL;rfl
theorem RepL.cons{d:D}{v:V}{xs:List D}{vs:List V}(h:Rep cA av H d v)(t:RepL cA av H xs vs):RepL cA av H (d::xs) (v::vs):=by
 unfold RepL;exact⟨v,vs,rfl,h,t⟩
theorem RepL.uncons{d:D}{xs:List D}{vs:List V}(h:RepL cA av H (d::xs) vs):∃v r,vs=v::r/\Rep cA av H d v/\RepL cA av H xs r:=by
 unfold RepL at h;exact h
theorem RepL.nil_of{vs:List V}(h:RepL cA av H [] vs):vs=[]:=by
 unfold RepL at h;exact h
theorem RepL.length:∀{xs:List D}{vs:List V},RepL cA av H xs vs->xs.length=vs.length
 | [],vs,h=>by rw [h.nil_of];rfl
 |x::xs,vs,h=>by
  obtain⟨v,r,rfl,_,t⟩:=h.uncons;rw [List.length_cons,List.length_cons,RepL.length t]
theorem RepL.get:∀{xs:List D}{vs:List V}{i:Nat}{x:D},RepL cA av H xs vs->xs[i]? = some x->∃v,vs[i]? = some v/\Rep cA av H x v
 | [],_,_,_,_,e=>by simp at e
 |y::xs,vs,0,x,h,e=>by
  obtain⟨v,r,rfl,h1,_⟩:=h.uncons;simp at e;subst e;exact⟨v,rfl,h1⟩
 |y::xs,vs,i+1,x,h,e=>by
  obtain⟨v,r,rfl,_,t⟩:=h.uncons;obtain⟨u,h1,h2⟩:=RepL.get (i:=i) t (by simpa using e);exact⟨u,by simpa using h1,h2⟩
theorem RepL.append:∀{xs ys:List D}{vs ws:List V},RepL cA av H xs vs->RepL cA av H ys ws->RepL cA av H (xs++ys) (vs++ws)
 | [],_,vs,_,h,t=>by rw [h.nil_of];exact t
 |x::xs,ys,vs,ws,h,t=>by
  obtain⟨v,r,rfl,h1,h2⟩:=h.uncons;exact .cons h1 (RepL.append h2 t)
theorem RepL.drop:∀{xs:List D}{vs:List V}(n:Nat),RepL cA av H xs vs->RepL cA av H (xs.drop n) (vs.drop n)
 |_,_,0,h=>h
 | [],vs,n+1,h=>by rw [h.nil_of];exact .nil
 |x::xs,vs,n+1,h=>by
  obtain⟨v,r,rfl,_,h2⟩:=h.uncons;exact RepL.drop n h2
theorem RepL.take:∀{xs:List D}{vs:List V}(n:Nat),RepL cA av H xs vs->RepL cA av H (xs.take n) (vs.take n)
 |_,_,0,h=>by simp;exact .nil
 | [],vs,n+1,h=>by rw [h.nil_of];exact .nil
 |x::xs,vs,n+1,h=>by
  obtain⟨v,r,rfl,h1,h2⟩:=h.uncons;exact .cons h1 (RepL.take n h2)
theorem RepL.set{d:D}{v:V}(hd:Rep cA av H d v):∀{xs:List D}{vs:List V}(i:Nat),RepL cA av H xs vs->RepL cA av H (xs.set i d) (vs.set i v)
 | [],vs,_,h=>by rw [h.nil_of];exact .nil
 |x::xs,vs,0,h=>by
  obtain⟨v',r,rfl,h1,h2⟩:=h.uncons;exact .cons hd h2
 |x::xs,vs,i+1,h=>by
  obtain⟨v',r,rfl,h1,h2⟩:=h.uncons;exact .cons h1 (RepL.set hd i h2)
def val:D->V
 | .bl b => .bl b
 | .int i => .int i
 | .str cs=>S cs
 |_ => .non
theorem Rep.val{d:D}{v:V}(hs:Zx d=true)(h:Rep cA av H d v):v=DL.val d:=by
 cases d<;>first|exact h|cases hs
theorem Rep.of_val{d:D}(hs:Zx d=true):Rep cA av H d (DL.val d):=by
 cases d<;>first|rfl|cases hs
theorem RepL.vals:∀{xs:List D}{vs:List V},xs.all Zx=true->RepL cA av H xs vs->vs=xs.map DL.val
 | [],vs,_,h=>h.nil_of
 |x::xs,vs,hs,h=>by
  rw [List.all_cons,Bool.and_eq_true]at hs;obtain⟨v,r,rfl,h1,h2⟩:=h.uncons;rw [List.map_cons,h1.val hs.1,RepL.vals hs.2 h2]
theorem RepL.of_vals:∀{xs:List D},xs.all Zx=true->RepL cA av H xs (xs.map DL.val)
 | [],_ => .nil
 |x::xs,hs=>by
  rw [List.all_cons,Bool.and_eq_true]at hs;exact .cons (.of_val hs.1) (RepL.of_vals hs.2)
def RepT(cA:Kn)(t i:Addr->Prop)(H:Hp):D->V->Prop
 | .lst xs,v=>∃a vs,v = .ref a/\(t a->KL cA.K a vs)/\SqL cA.K H a vs/\RepL cA i H xs vs
 | .tup xs,v=>∃a vs,v = .ref a/\¬t a/\H a=some (.tup vs)/\RepL cA i H xs vs
 | .obj c ks xs,v=>∃a dx vs,v = .ref a/\¬t a/\H a=some (.ins (cA.c c) dx ((ks.map Str.ofString).zip vs))/\ks.length=xs.length/\RepL cA i H xs vs
 | .dct ks xs,v=>∃a vs,v = .ref a/\¬t a/\H a=some (.dK (ks.zip vs))/\ks.length=xs.length/\RepL cA i H xs vs
 | .dtt ks xs,v=>∃a vs,v = .ref a/\¬t a/\H a=some (.dT (ks.zip vs))/\ks.length=xs.length/\RepL cA i H xs vs
 |d,v=>v=DL.val d
theorem Rep.t{d:D}{v:V}(h:Rep cA av H d v):RepT cA av av H d v:=by
 cases d<;>first|exact h|(unfold Rep at h;exact h)
theorem RepT.r{d:D}{v:V}(h:RepT cA av av H d v):Rep cA av H d v:=by
 cases d<;>first|exact h|(unfold Rep;exact h)
theorem RepT.weak{t t' i i':Addr->Prop}{d:D}{v:V}(ht:∀a,t' a->t a)(hi:∀a,i' a->i a)(h:RepT cA t i H d v):RepT cA t' i' H d v:=by
 cases d with
 |lst xs=>obtain⟨a,vs,e,n,r,l⟩:=h;exact⟨a,vs,e,λz=>n (ht a z),r,l.av λb z => .inl (hi b z)⟩
 |tup xs=>obtain⟨a,vs,e,n,r,l⟩:=h;exact⟨a,vs,e,λz=>n (ht a z),r,l.av λb z => .inl (hi b z)⟩
 |obj c ks xs=>obtain⟨a,dx,vs,e,n,r,z,l⟩:=h;exact⟨a,dx,vs,e,λz=>n (ht a z),r,z,l.av λb z => .inl (hi b z)⟩
 |dct ks xs=>obtain⟨a,vs,e,n,r,z,l⟩:=h;exact⟨a,vs,e,λz=>n (ht a z),r,z,l.av λb z => .inl (hi b z)⟩
 |dtt ks xs=>obtain⟨a,vs,e,n,r,z,l⟩:=h;exact⟨a,vs,e,λz=>n (ht a z),r,z,l.av λb z => .inl (hi b z)⟩
 |_=>exact h
theorem RepT.same{t i:Addr->Prop}{d:D}{v:V}(k:Same H H')(h:RepT cA t i H d v):RepT cA t i H' d v:=by
 cases d with
 |lst xs=>obtain⟨a,vs,e,n,r,l⟩:=h;exact⟨a,vs,e,n,k.seq r,l.same k⟩
 |tup xs=>obtain⟨a,vs,e,n,r,l⟩:=h;exact⟨a,vs,e,n,k a _ r,l.same k⟩
 |obj c ks xs=>obtain⟨a,dx,vs,e,n,r,z,l⟩:=h;exact⟨a,dx,vs,e,n,k a _ r,z,l.same k⟩
 |dct ks xs=>obtain⟨a,vs,e,n,r,z,l⟩:=h;exact⟨a,vs,e,n,k a _ r,z,l.same k⟩
 |dtt ks xs=>obtain⟨a,vs,e,n,r,z,l⟩:=h;exact⟨a,vs,e,n,k a _ r,z,l.same k⟩
 |_=>exact h
end
abbrev Env:=List (Option D)
structure Cn where
 cA:Kn
 pin:Nat->Option (Addr ⊕ V)
def AV(av:Addr->Prop)(A:Nat->Option Addr)(a:Addr):Prop:=av a\/∃i,A i=some a
def Own(cA:Kn)(av:Addr->Prop)(H:Hp):D->Addr->Prop
 | .lst xs,a=>∃vs,H a=some (.lst vs)/\RepL cA av H xs vs
 | .obj c ks xs,a=>∃dx vs,H a=some (.ins (cA.c c) dx ((ks.map Str.ofString).zip vs))/\ks.length=xs.length/\RepL cA av H xs vs
 | .dct ks xs,a=>∃vs,H a=some (.dK (ks.zip vs))/\ks.length=xs.length/\RepL cA av H xs vs
 | .dtt ks xs,a=>∃vs,H a=some (.dT (ks.zip vs))/\ks.length=xs.length/\RepL cA av H xs vs
 |_,_=>False
structure ER(G:Cn)(ow:List Nat)(H0:Hp)(av:Addr->Prop)(A:Nat->Option Addr)(σ:St)(H:Hp)(δ:Env):Prop where
 same:Same H0 H
 avd:∀a,av a->H0 a≠none
 fr:∀i a,A i=some a->H0 a=none
 inj:∀i j a,A i=some a->A j=some a->i=j
 live:∀i a,A i=some a->H a≠none
 dom:∀i,A i≠none->i∈ow
 dom':∀i∈ow,A i≠none
 len:σ.length=δ.length
 pin:∀i a,G.2 i=some (.inl a)->A i=some a
 kept:∀i v,G.2 i=some (.inr v)->σ[i]? = some (some v)
 var:∀(i:Nat)(d:D),δ[i]? = some (some d)->∃v,σ[i]? = some (some v)/\(A i=none->Rep G.1 (AV av A) H d v)/\(∀a,A i=some a->v = .ref a/\Own G.1 (AV av A) H d a)
inductive Ql where
 |cl|tp|dt
def RepQ(cA:Kn)(av:Addr->Prop)(A:Nat->Option Addr)(H:Hp):Ql->D->V->Prop
 | .cl,d,v=>RepT cA (AV av A) (AV av A) H d v
 | .tp,d,v=>RepT cA av (AV av A) H d v
 | .dt,d,v=>RepT cA av av H d v
def Ql.it:Ql->Ql
 | .dt => .dt
 |_ => .cl
section
variable{cA:Kn}{G:Cn}{ow:List Nat}{H0 H H':Hp}{av:Addr->Prop}{A:Nat->Option Addr}{σ:St}{δ:Env}
theorem AV.l{a:Addr}(h:av a):AV av A a := .inl h
def Ql.iv(q:Ql)(av:Addr->Prop)(A:Nat->Option Addr):Addr->Prop:=match q with
 | .dt=>av
 |_=>AV av A
theorem RepQ.tp{q:Ql}{d:D}{v:V}(h:RepQ cA av A H q d v):RepT cA av (q.iv av A) H d v:=by
 cases q with
 |cl=>exact h.weak (λa => .inl) λa z=>z
 |tp=>exact h
 |dt=>exact h
theorem RepQ.any{q:Ql}{d:D}{v:V}(h:RepQ cA av A H q d v):Rep cA av H d v:=by
 cases q with
 |cl=>exact(h.weak (λa => .inl) λa => .inl).r
 |tp=>exact(h.weak (λa z=>z) λa => .inl).r
 |dt=>exact h.r
theorem RepQ.same{q:Ql}{d:D}{v:V}(k:Same H H')(h:RepQ cA av A H q d v):RepQ cA av A H' q d v:=by
 cases q<;>exact RepT.same k h
theorem ER.mono(E:ER G ow H0 av A σ H δ)(k:Same H H'):ER G ow H0 av A σ H' δ:=by
 refine⟨E.same.trans k,E.avd,E.fr,E.inj,λi a e => ?_,E.dom,E.dom',E.len,E.pin,E.kept,λi d e => ?_⟩
 · have:=E.live i a e
   cases q:H a with
   |none=>exact absurd q this
   |some o=>rw [k a o q];exact λz=>by cases z
 · obtain⟨v,h1,h2,h3⟩:=E.var i d e
   refine⟨v,h1,λz=>(h2 z).same k,λa z=>⟨(h3 a z).1,?_⟩⟩;have:=(h3 a z).2;cases d with
   |lst xs=>obtain⟨vs,q1,q2⟩:=this;exact⟨vs,k _ _ q1,q2.same k⟩
   |obj c ks xs=>obtain⟨dx,vs,q1,q0,q2⟩:=this;exact⟨dx,vs,k _ _ q1,q0,q2.same k⟩
   |dct ks xs=>obtain⟨vs,q1,q0,q2⟩:=this;exact⟨vs,k _ _ q1,q0,q2.same k⟩
   |dtt ks xs=>obtain⟨vs,q1,q0,q2⟩:=this;exact⟨vs,k _ _ q1,q0,q2.same k⟩
   |_=>exact this
theorem ER.avl(E:ER G ow H0 av A σ H δ):∀a,AV av A a->H a≠none:=λa h=>by
 rcases h with h|⟨i,h⟩
 · have:=E.avd a h
   cases q:H0 a with
   |none=>exact absurd q this
   |some o=>rw [E.same a o q];exact λz=>by cases z
 · exact E.live i a h
theorem ER.avH(E:ER G ow H0 av A σ H δ):∀a,av a->H a≠none:=λa h=>E.avl a (.inl h)
end
def VE(G:Cn)(ow:List Nat)(te:TE)(q:Ql)(ε:Env->Option D):Prop:=
 ∀H0 av A σ H δ,ER G ow H0 av A σ H δ->∀d,ε δ=some d->∀Q:VK,(∀v H',Same H H'->RepQ G.1 av A H' q d v->Q v H')->te σ H Q
def VF(G:Cn)(ow:List Nat)(te:TE)(ε:Env->Option D):Prop:=
 ∀H0 av A σ H δ,ER G ow H0 av A σ H δ->∀d,ε δ=some d->∀Q:VK,(∀p vs xs H1,Same H H1->H1 p=none->RepL G.1 (AV av A) H1 xs vs->d = .lst xs->Q (.ref p) (upd H1 p (.lst vs)))->te σ H Q
def VT(G:Cn)(ow:List Nat)(tt:TT)(τ:Env->Option Bool):Prop:=
 ∀H0 av A σ H δ,ER G ow H0 av A σ H δ->∀b,τ δ=some b->∀Q:Bool->Hp->Prop,(∀H',Same H H'->Q b H')->tt σ H Q
def RepQL(cA:Kn)(av:Addr->Prop)(A:Nat->Option Addr)(H:Hp)(q:Ql):List D->List V->Prop
 | [],vs=>vs=[]
 |x::xs,vs=>∃v r,vs=v::r/\RepQ cA av A H q x v/\RepQL cA av A H q xs r
def VA(G:Cn)(ow:List Nat)(ta:TA)(q:Ql)(α:Env->Option (List D)):Prop:=
 ∀H0 av A σ H δ,ER G ow H0 av A σ H δ->∀ds,α δ=some ds->∀Q:List V->Hp->Prop,(∀vs H',Same H H'->RepQL G.1 av A H' q ds vs->Q vs H')->ta σ H Q
section
variable{cA:Kn}{G:Cn}{ow:List Nat}
theorem RepQL.same{av:Addr->Prop}{A:Nat->Option Addr}{H H':Hp}{q:Ql}(k:Same H H'):∀{xs:List D}{vs:List V},RepQL cA av A H q xs vs->RepQL cA av A H' q xs vs
 | [],_,h=>h
 |x::xs,vs,h=>by
  obtain⟨v,r,e,h1,h2⟩:=h;exact⟨v,r,e,h1.same k,RepQL.same k h2⟩
theorem RepQL.cl{av:Addr->Prop}{A:Nat->Option Addr}{H:Hp}:∀{xs:List D}{vs:List V},RepQL cA av A H .cl xs vs->RepL cA (AV av A) H xs vs
 | [],_,h=>by unfold RepL;exact h
 |x::xs,vs,h=>by
  obtain⟨v,r,e,h1,h2⟩:=h;subst e;exact .cons (RepT.r h1) (RepQL.cl h2)
theorem RepQL.any{av:Addr->Prop}{A:Nat->Option Addr}{H:Hp}{q:Ql}:∀{xs:List D}{vs:List V},RepQL cA av A H q xs vs->RepL cA av H xs vs
 | [],_,h=>by unfold RepL;exact h
 |x::xs,vs,h=>by
  obtain⟨v,r,e,h1,h2⟩:=h;subst e;exact .cons h1.any (RepQL.any h2)
theorem VE.dt{te:TE}{q:Ql}{ε:Env->Option D}(h:VE G ow te q ε):VE G ow te .dt ε:=λH0 av A σ H δ E d e Q k=>
 h H0 av A σ H δ E d e Q λv H' s r=>k v H' s r.any.t
theorem Yb{H:Hp}{p:Addr}{o:HO}(h:H p=none):Same H (upd H p o):=Zev h
theorem VF.cl{te:TE}{ε:Env->Option D}(h:VF G ow te ε):VE G ow te .cl ε:=λH0 av A σ H δ E d e Q k=>
 h H0 av A σ H δ E d e Q λp vs xs H1 s hp l hd=>by
  subst hd;refine k _ _ (s.trans (Yb hp)) ⟨p,vs,rfl,λz=>((E.mono s).avl p z hp).elim,SqL.of ZL,l.same (Yb hp)⟩
def UC(ε:Env->Option D)(δ:Env):Option D:=match ε δ with
 |some d=>if Zx d then some d else none
 |none=>none
theorem VE.scal{te:TE}{q:Ql}{ε:Env->Option D}(h:VE G ow te q ε):VE G ow te .cl (UC ε):=λH0 av A σ H δ E d e Q k=>by
 unfold UC at e;cases he:ε δ with
 |none=>rw [he]at e;cases e
 |some d'=>
  rw [he]at e
  by_cases hs:Zx d'=true
  · have e':d'=d:=by simpa [hs]using e
    subst e';exact h H0 av A σ H δ E d' he Q λv H' s r=>k v H' s (Rep.scal hs r.any).t
  · simp [hs]at e
def Za(i:Nat)(δ:Env):Option D:=match δ[i]? with
 |some (some d)=>some d
 |_=>none
theorem YI{i:Nat}{δ:Env}{d:D}(h:Za i δ=some d):δ[i]? = some (some d):=by
 unfold Za at h;cases e:δ[i]? with
 |none=>rw [e]at h;cases h
 |some o=>
  rw [e]at h;cases o with
  |none=>cases h
  |some x=>exact congrArg (some∘some) (Option.some.inj h)
theorem Zc(i:Nat)(hi:(ow.contains i)=false):VE G ow (Xr i) .cl (Za i):=λH0 av A σ H δ E d e Q k=>by
 obtain⟨v,h1,h2,_⟩:=E.var i d (YI e)
 have hn:A i=none:=by
  cases q:A i with
  |none=>rfl
  |some a=>
   have:=E.dom i (by rw [q];exact λz=>by cases z);simp at hi;exact absurd this hi
 exact⟨v,h1,k v H (Same.refl H) (h2 hn).t⟩
theorem V8(i:Nat)(hi:(ow.contains i)=true):VE G ow (Xr i) .tp (Za i):=λH0 av A σ H δ E d e Q k=>by
 obtain⟨v,h1,_,h3⟩:=E.var i d (YI e);have hi':i∈ow:=by simpa using hi
 cases q:A i with
 |none=>exact absurd q (E.dom' i hi')
 |some a=>
  obtain⟨rfl,o⟩:=h3 a q;have na:¬av a:=λz=>E.avd a z (E.fr i a q)
  refine⟨_,h1,k _ H (Same.refl H) ?_⟩;cases d with
  |lst xs=>obtain⟨vs,q1,q2⟩:=o;exact⟨a,vs,rfl,λz=>(na z).elim,SqL.of q1,q2⟩
  |obj c ks xs=>obtain⟨dx,vs,q1,q0,q2⟩:=o;exact⟨a,dx,vs,rfl,na,q1,q0,q2⟩
  |dct ks xs=>obtain⟨vs,q1,q0,q2⟩:=o;exact⟨a,vs,rfl,na,q1,q0,q2⟩
  |dtt ks xs=>obtain⟨vs,q1,q0,q2⟩:=o;exact⟨a,vs,rfl,na,q1,q0,q2⟩
  |_=>exact False.elim o
def eC(d:D)(_:Env):Option D:=some d
theorem Zl{v:V}{d:D}(hs:Zx d=true)(hv:v=val d):VE G ow (tC v) .cl (eC d):=λH0 av A σ H δ E d' e Q k=>by
 have e':d=d':=Option.some.inj e;subst e' hv;exact k _ H (Same.refl H) (Rep.of_val hs).t
def Xm(cA:Kn)(r:R2)(f:D->D->Option D):Prop:=
 ∀(t t' i:Addr->Prop)(H:Hp)(x y:D)(vx vy:V)(d:D),(∀a,i a->H a≠none)->RepT cA t i H x vx->RepT cA t' i H y vy->f x y=some d->∀Q:VK,(∀v H',Same H H'->Rep cA i H' d v->Q v H')->r vx vy H Q
def eOp(f:D->D->Option D)(a b:Env->Option D)(δ:Env):Option D:=match a δ with
 |some x=>match b δ with
  |some y=>f x y
  |none=>none
 |none=>none
theorem V9{f:D->D->Option D}{a b:Env->Option D}{δ:Env}{d:D}(h:eOp f a b δ=some d):∃x y,a δ=some x/\b δ=some y/\f x y=some d:=by
 unfold eOp at h;cases ea:a δ with
 |none=>rw [ea]at h;cases h
 |some x=>
  rw [ea]at h;cases eb:b δ with
  |none=>rw [eb]at h;cases h
  |some y=>rw [eb]at h;exact⟨x,y,rfl,rfl,h⟩
def Ql.jn:Ql->Ql->Ql
 | .dt,_ => .dt
 |_,.dt => .dt
 |_,_ => .cl
theorem Zi{r:R2}{f:D->D->Option D}{ta tb:TE}{qa qb:Ql}{a b:Env->Option D}(hr:Xm G.1 r f)(ha:VE G ow ta qa a)(hb:VE G ow tb qb b):VE G ow (tOp r ta tb) (qa.jn qb) (eOp f a b):=λH0 av A σ H δ E d e Q k=>by
 obtain⟨x,y,ex,ey,ed⟩:=V9 e;refine ha H0 av A σ H δ E x ex _ λvx H1 s1 r1=>hb H0 av A σ H1 δ (E.mono s1) y ey _ λvy H2 s2 r2 => ?_
 have E2:=(E.mono s1).mono s2;have r1':=(r1.same s2).tp;have r2':=r2.tp;have key:∀i:Addr->Prop,(∀a,i a->H2 a≠none)->RepT G.1 av i H2 x vx->RepT G.1 av i H2 y vy->(∀v H',Same H2 H'->Rep G.1 i H' d v->Q v H')->r vx vy H2 Q:=λi hi h1 h2 h3=>hr av av i H2 x y vx vy d hi h1 h2 ed Q h3
 have toav:∀{dd:D}{v:V},RepT G.1 av (AV av A) H2 dd v->RepT G.1 av av H2 dd v:=λh=>h.weak (λa z=>z) λa => .inl
 cases qa with
 |dt=>
  refine key av E2.avH r1' ?_ λv H' s3 r3=>k v H' ((s1.trans s2).trans s3) r3.t
  cases qb with
  |dt=>exact r2'
  |cl=>exact toav r2'
  |tp=>exact toav r2'
 |cl=>
  cases qb with
  |dt=>exact key av E2.avH (toav r1') r2' λv H' s3 r3=>k v H' ((s1.trans s2).trans s3) r3.t
  |cl=>exact key _ E2.avl r1' r2' λv H' s3 r3=>k v H' ((s1.trans s2).trans s3) r3.t
  |tp=>exact key _ E2.avl r1' r2' λv H' s3 r3=>k v H' ((s1.trans s2).trans s3) r3.t
 |tp=>
  cases qb with
  |dt=>exact key av E2.avH (toav r1') r2' λv H' s3 r3=>k v H' ((s1.trans s2).trans s3) r3.t
  |cl=>exact key _ E2.avl r1' r2' λv H' s3 r3=>k v H' ((s1.trans s2).trans s3) r3.t
  |tp=>exact key _ E2.avl r1' r2' λv H' s3 r3=>k v H' ((s1.trans s2).trans s3) r3.t
end
end DL
namespace DL
open PySem PySem.Spec L2
mutual
def toP:D->PyData
 | .non => .none
 | .bl b => .bool b
 | .int i => .int i
 | .str cs => .str (tx cs)
 | .lst xs => .list (X2 xs)
 | .tup xs => .tuple (X2 xs)
 | .obj _ _ _ => .dict []
 | .dct _ _ => .dict []
 | .dtt _ _ => .dict []
def X2:List D->List PyData
 | []=>[]
 |x::xs=>toP x::X2 xs
end
section
variable{X:Cx}{cA:Kn}
mutual
theorem U8{pins:List (Addr×Obj)}{σ:L2.St}{H:Hp}{s:Shared}{av:Addr->Prop}(hK:cA.K=X.K)(I:Inv X pins σ H s):∀(d:D)(v:V)(u:Value),PyData.canLay0 (toP d)=true->Rep cA av H d v->RelV v u->∃as,Reads s.heap u (toP d) as
 | .non,v,u,_,h,r=>by
  cases(show v = .non from h);cases r;exact⟨_,.none⟩
 | .bl b,v,u,_,h,r=>by
  cases(show v = .bl b from h);cases r;exact⟨_,.bool b⟩
 | .int i,v,u,_,h,r=>by
  cases(show v = .int i from h);obtain⟨t,rfl⟩:=r;exact⟨_,.int i t⟩
 | .str cs,v,u,_,h,r=>by
  cases(show v=S cs from h);obtain⟨t,rfl⟩:=r;exact⟨_,.str _ t⟩
 | .lst xs,v,u,c,h,r=>by
  unfold Rep at h;obtain⟨a,vs,rfl,_,rd,l⟩:=h;cases r;obtain⟨its,rv,⟨ob,n,e,hc,hd,hs⟩,z⟩:=I.list (show SqL X.K H a vs from hK▸rd);obtain⟨as,ra⟩:=Zaj hK I xs vs its (by unfold toP PyData.canLay0 at c;exact c) l rv;unfold toP;exact⟨_,.list e hc hs (by simpa using ra)⟩
 | .tup xs,v,u,c,h,r=>by
  unfold Rep at h;obtain⟨a,vs,rfl,_,rd,l⟩:=h;cases r;obtain⟨z,its,rv,ob,e,hc,⟨n,hd⟩,_⟩:=(show ObjOk X.prog X.w H s.heap a (.tup vs)from I.hok a _ rd)
  obtain⟨as,ra⟩:=Zaj hK I xs vs its (by unfold toP PyData.canLay0 at c;exact c) l rv;unfold toP;exact⟨_,.tuple e hc hd (by simpa using ra)⟩
 | .obj c' ks xs,v,u,c,h,r=>by
  unfold toP PyData.canLay0 at c;cases c
 | .dct ks xs,v,u,c,h,r=>by
  unfold toP PyData.canLay0 at c;cases c
 | .dtt ks xs,v,u,c,h,r=>by
  unfold toP PyData.canLay0 at c;cases c
theorem Zaj{pins:List (Addr×Obj)}{σ:L2.St}{H:Hp}{s:Shared}{av:Addr->Prop}(hK:cA.K=X.K)(I:Inv X pins σ H s):∀(xs:List D)(vs:List V)(us:List Value),PyData.canLayAll0 (X2 xs)=true->RepL cA av H xs vs->Vals vs us->∃as,ReadsAll s.heap us (X2 xs) as
 | [],vs,us,_,h,r=>by
  rw [h.nil_of]at r;cases r;exact⟨_,.nil⟩
 |x::xs,vs,us,c,h,r=>by
  obtain⟨v,rr,rfl,h1,h2⟩:=h.uncons;cases r with
  |cons r1 r2=>
   unfold X2 PyData.canLayAll0 at c;rw [Bool.and_eq_true]at c;obtain⟨a1,q1⟩:=U8 hK I x v _ c.1 h1 r1;obtain⟨a2,q2⟩:=Zaj hK I xs rr _ c.2 h2 r2;unfold X2;exact⟨_,.cons q1 q2⟩
end
end
def eqD(x y:D):Option D:=
 if Zx x&&Zx y&&scal (val x) (val y)then some (.bl (decide (val x=val y)))
 else if SeqAt.shaped (toP x)&&SeqAt.shaped (toP y)then some (.bl (PyData.eqv (toP x) (toP y)))else none
def neD(x y:D):Option D:=match eqD x y with
 |some (.bl b)=>some (.bl (!b))
 |_=>none
def QX(cA:Kn)(neg:Bool):R2:=λx y H Q=>∃av av' dx dy b,Rep cA av H dx x/\Rep cA av' H dy y/\eqD dx dy=some (.bl b)/\Q (.bl (neg != b)) H
section
variable{X:Cx}{cA:Kn}
theorem XM(hu:X.A.units+64<cLine)(hK:cA.K=X.K:=by rfl):OpR X (compareOp .Eq) (QX cA false):=by
 intro pins s σ H x y v u Q I rx ry h;obtain⟨av,av',dx,dy,b,hx,hy,e,q⟩:=h;unfold eqD at e
 by_cases h1:(Zx dx&&Zx dy&&scal (val dx) (val dy))=true
 · rw [if_pos h1]at e
   simp only [Bool.and_eq_true]at h1;obtain⟨⟨s1,s2⟩,s3⟩:=h1;have e1:=hx.val s1;have e2:=hy.val s2;subst e1 e2;have e':decide (val dx=val dy)=b:=by simpa using e
   exact ZiT pins s σ H _ _ v u Q I rx ry ⟨s3,by rw [e'];simpa using q⟩
 · rw [if_neg h1]at e
   by_cases h2:(SeqAt.shaped (toP dx)&&SeqAt.shaped (toP dy))=true
   · rw [if_pos h2]at e
     rw [Bool.and_eq_true]at h2;obtain⟨as,ra⟩:=U8 hK I dx x v (SeqAt.canLay_of_shaped h2.1) hx rx;obtain⟨bs,rb⟩:=U8 hK I dy y u (SeqAt.canLay_of_shaped h2.2) hy ry;have e':PyData.eqv (toP dx) (toP dy)=b:=by simpa using e
     exact PyProof.Rows.eq_dataH ra rb h2.1 h2.2 hu (by rw [e'];exact⟨.bl b,H,I,rfl,by simpa using q⟩)
   · rw [if_neg h2]at e
     cases e
theorem Zfm(hu:X.A.units+64<cLine)(hK:cA.K=X.K:=by rfl):OpR X (compareOp .NotEq) (QX cA true):=by
 intro pins s σ H x y v u Q I rx ry h;obtain⟨av,av',dx,dy,b,hx,hy,e,q⟩:=h;unfold eqD at e
 by_cases h1:(Zx dx&&Zx dy&&scal (val dx) (val dy))=true
 · rw [if_pos h1]at e
   simp only [Bool.and_eq_true]at h1;obtain⟨⟨s1,s2⟩,s3⟩:=h1;have e1:=hx.val s1;have e2:=hy.val s2;subst e1 e2;have e':decide (val dx=val dy)=b:=by simpa using e
   exact ZiU pins s σ H _ _ v u Q I rx ry ⟨s3,by rw [e'];simpa using q⟩
 · rw [if_neg h1]at e
   by_cases h2:(SeqAt.shaped (toP dx)&&SeqAt.shaped (toP dy))=true
   · rw [if_pos h2]at e
     rw [Bool.and_eq_true]at h2;obtain⟨as,ra⟩:=U8 hK I dx x v (SeqAt.canLay_of_shaped h2.1) hx rx;obtain⟨bs,rb⟩:=U8 hK I dy y u (SeqAt.canLay_of_shaped h2.2) hy ry;have e':PyData.eqv (toP dx) (toP dy)=b:=by simpa using e
     exact PyProof.Rows.ne_dataH ra rb h2.1 h2.2 hu (by rw [e'];exact⟨.bl (!b),H,I,rfl,by simpa using q⟩)
   · rw [if_neg h2]at e
     cases e
theorem RepT.av0{t i:Addr->Prop}{H:Hp}{d:D}{v:V}(h:RepT cA t i H d v):Rep cA (λ_=>False) H d v:=(h.weak (λ_ z=>z.elim) λ_ z=>z.elim).r
theorem Zfn{x y d:D}(h:eqD x y=some d):∃b,d = .bl b:=by
 unfold eqD at h
 split at h
 · exact⟨_,(Option.some.inj h).symm⟩
 · split at h
   · exact⟨_,(Option.some.inj h).symm⟩
   · cases h
theorem XN:Xm cA (QX cA false) eqD:=λt t' i H x y vx vy d _ hx hy e Q k=>by
 obtain⟨b,rfl⟩:=Zfn e;exact⟨_,_,x,y,b,hx.av0,hy.av0,e,k _ H (Same.refl H) (by cases b<;>rfl)⟩
theorem Zho:Xm cA (QX cA true) neD:=λt t' i H x y vx vy d _ hx hy e Q k=>by
 unfold neD at e;cases he:eqD x y with
 |none=>rw [he]at e;cases e
 |some z=>
  obtain⟨b,rfl⟩:=Zfn he;rw [he]at e;have e':D.bl (!b)=d:=Option.some.inj e;subst e';exact⟨_,_,x,y,b,hx.av0,hy.av0,he,k _ H (Same.refl H) (by cases b<;>rfl)⟩
def UD(x:List Nat)(n:Int):List Nat:=(List.replicate n.toNat x).flatten
theorem ZaY(x:List Nat):∀(k:Nat)(acc:Array Nat),(List.replicate k x.toArray).foldl (· ++ ·) acc=acc++(List.replicate k x).flatten.toArray
 |0,acc=>by simp
 |k+1,acc=>by
  rw [List.replicate_succ,List.replicate_succ,List.foldl_cons,ZaY x k,List.flatten_cons];simp
theorem Zh5(x:List Nat)(n:Int):Txt.mul (tx x) n=tx (UD x n):=by
 unfold Txt.mul UD
 by_cases h1:n<1
 · rw [if_pos h1]
   have:n.toNat=0:=by omega
   rw [this];rfl
 · rw [if_neg h1]
   by_cases h2:(n == 1||(tx x).length == 0)=true
   · rw [if_pos h2]
     rw [Bool.or_eq_true]at h2;rcases h2 with h2|h2
     · have:n=1:=by simpa using h2
       subst this;simp
     · have : x = [] := by
        have:(tx x).length=0:=by simpa using h2
        rw [Y4]at this;exact List.eq_nil_of_length_eq_zero this
       subst this;simp
   · rw [if_neg h2]
     have:=ZaY x n.toNat #[];rw [this];simp
def rMulS:R2:=λx y H Q=>∃a n,x=S a/\y = .int n/\(n<2 ^ 63 /\ -(2 ^ 63)<=n/\a.length*n.toNat<=sizeLine)/\Q (S (UD a n)) H
theorem op_mulS:OpR X (binaryOp .Mult) rMulS:=by
 intro pins s σ H x y v u Q I rx ry h;obtain⟨a,n,rfl,rfl,⟨h1,h2,h3⟩,q⟩:=h;obtain⟨t,rfl⟩:=rx;obtain⟨t',rfl⟩:=ry;refine SB.mul ⟨?_,λhn hc => ?_,λhn hc => ?_⟩ λt' k=>⟨S (UD a n),H,I.tok _,⟨_,by rw [Zh5]⟩,q⟩
 · have e1:decide (n < -(2 ^ 63:Int))=false:=decide_eq_false (by omega)
   have e2:decide (n ≥ 2 ^ 63)=false:=decide_eq_false (by omega);rw [e1,e2];rfl
 · rw [Y4]
   have hs:sizeLine=16777216:=sizeLine_eq;intro hgt
   have h5:(a.length:Int)*n<=16777216:=by
    have:(a.length:Int)*n=((a.length*n.toNat:Nat):Int):=by
     rw [Int.natCast_mul,Int.toNat_of_nonneg (by omega)]
    rw [this];omega
   have h6:(2 ^ 63-1) / n<(a.length:Int):=hgt
   have h7:(2 ^ 63-1:Int)<(a.length:Int)*n:=by
    have:=Int.lt_mul_of_ediv_lt (show(0:Int)<n by omega) h6;rw [Int.mul_comm];rw [Int.mul_comm]at this;exact this
   omega
 · rw [Y4]
   show decide (a.length*n.toNat>sizeLine)=false;exact decide_eq_false (by omega)
instance (i j:Int):Decidable (CMul i j):=by unfold CMul;infer_instance
instance (i j:Int):Decidable (UZ i j):=by unfold UZ;infer_instance
def addD:D->D->Option D
 | .int i,.int j=>some (.int (i+j))
 | .str a,.str b=>if a.length+b.length<=sizeLine then some (.str (a++b))else none
 |_,_=>none
def subD:D->D->Option D
 | .int i,.int j=>some (.int (i-j))
 |_,_=>none
def Zkv:D->D->Option D
 | .int i,.int j=>if CMul i j then some (.int (i*j))else none
 | .str a,.int n=>if n<2 ^ 63 /\ -(2 ^ 63)<=n/\a.length*n.toNat<=sizeLine then some (.str (UD a n))else none
 |_,_=>none
def Zhp:D->D->Option D
 | .int i,.int j=>if UZ i j then some (.int (i / j))else none
 |_,_=>none
def Zkw:D->D->Option D
 | .int i,.int j=>if 0<j then some (.int (i % j))else none
 |_,_=>none
def ZQ(p:Int->Int->Bool):D->D->Option D
 | .int i,.int j=>some (.bl (p i j))
 |_,_=>none
theorem Zh6:Xm cA ZiZ addD:=λt t' i H x y vx vy d _ hx hy e Q k=>by
 cases x<;>cases y<;>first|(cases e;done)|skip
 · cases(show vx=_ from hx);cases(show vy=_ from hy)
   cases e;exact .inl ⟨_,_,rfl,rfl,k _ H (Same.refl H) rfl⟩
 · cases(show vx=_ from hx);cases(show vy=_ from hy)
   rename_i a b;dsimp only [addD]at e
   by_cases hz:a.length+b.length<=sizeLine
   · rw [if_pos hz]at e
     cases e;exact .inr (.inl ⟨_,_,rfl,rfl,hz,k _ H (Same.refl H) rfl⟩)
   · rw [if_neg hz]at e;cases e
theorem Zcy:Xm cA (rI0 λi j => .int (i-j)) subD:=λt t' i H x y vx vy d _ hx hy e Q k=>by
 cases x<;>cases y<;>first|(cases e;done)|skip
 cases(show vx=_ from hx);cases(show vy=_ from hy);cases e;exact⟨_,_,rfl,rfl,k _ H (Same.refl H) rfl⟩
theorem Vk{p:Int->Int->Bool}:Xm cA (rI0 λi j => .bl (p i j)) (ZQ p):=λt t' i H x y vx vy d _ hx hy e Q k=>by
 cases x<;>cases y<;>first|(cases e;done)|skip
 cases(show vx=_ from hx);cases(show vy=_ from hy);cases e;exact⟨_,_,rfl,rfl,k _ H (Same.refl H) rfl⟩
def inD(neg:Bool):D->D->Option D
 | .str [c],.str b=>some (.bl (neg != decide (c∈b)))
 |x,.lst ys=>if Zx x&&ys.all Zx then some (.bl (if neg then !(inV (val x) (ys.map val))else inV (val x) (ys.map val)))else none
 |x,.tup ys=>if Zx x&&ys.all Zx then some (.bl (if neg then !(inV (val x) (ys.map val))else inV (val x) (ys.map val)))else none
 |_,_=>none
theorem QY{d:D}:Zx d=true->Xl (val d)=true:=by
 intro h;cases d<;>first|rfl|cases h
theorem QZ:∀{xs:List D},xs.all Zx=true->(xs.map val).all Xl=true
 | [],_=>rfl
 |x::xs,h=>by
  rw [List.all_cons,Bool.and_eq_true]at h;rw [List.map_cons,List.all_cons,QY h.1,QZ h.2];rfl
theorem Zga{t i:Addr->Prop}{H:Hp}{d:D}{v:V}(hs:Zx d=true)(h:RepT cA t i H d v):v=val d:=by
 cases d<;>first|exact h|cases hs
theorem Zhq{neg:Bool}:Xm cA (QR cA.K neg) (inD neg):=λt t' i H x y vx vy d _ hx hy e Q k=>by
 have seq:∀ys,(y = .lst ys\/y = .tup ys)->(if Zx x&&ys.all Zx then some (D.bl (if neg then !(inV (val x) (ys.map val))else inV (val x) (ys.map val)))else none)=some d->QR cA.K neg vx vy H Q:=λys hy' e=>by
  by_cases hz:(Zx x&&ys.all Zx)=true
  · rw [if_pos hz]at e
    rw [Bool.and_eq_true]at hz;have ex:=Zga hz.1 hx;subst ex;cases e;rcases hy' with rfl|rfl
    · obtain⟨a,vs,rfl,_,rd,l⟩:=hy
      have ev:=l.vals hz.2;subst ev;exact .inr ⟨a,_,rfl,.inl rd,QY hz.1,QZ hz.2,k _ H (Same.refl H) rfl⟩
    · obtain⟨a,vs,rfl,_,rd,l⟩:=hy
      have ev:=l.vals hz.2;subst ev;exact .inr ⟨a,_,rfl,.inr (SqT.of rd),QY hz.1,QZ hz.2,k _ H (Same.refl H) rfl⟩
  · rw [if_neg hz]at e;cases e
 cases y with
 |lst ys=>exact seq ys (.inl rfl) (by cases x<;>first|exact e|(rename_i cs;cases cs<;>first|exact e|(rename_i c r;cases r<;>exact e)))
 |tup ys=>exact seq ys (.inr rfl) (by cases x<;>first|exact e|(rename_i cs;cases cs<;>first|exact e|(rename_i c r;cases r<;>exact e)))
 |str b=>
  cases x with
  |str cs=>
   cases cs with
   |nil=>cases e
   |cons c r=>
    cases r with
    |cons _ _=>cases e
    |nil=>
     cases(show vx=_ from hx);cases(show vy=_ from hy);cases e;exact .inl ⟨c,b,rfl,rfl,k _ H (Same.refl H) rfl⟩
  |_=>cases e
 |_=>cases x<;>first|(cases e;done)|(rename_i cs;cases cs<;>first|(cases e;done)|(rename_i c r;cases r<;>cases e))
def ixD:D->D->Option D
 | .lst xs,.int i=>atI xs i
 | .tup xs,.int i=>atI xs i
 | .str cs,.int i=>if cs.length<=sizeLine then(atI cs i).map λc => .str [c]else none
 |_,_=>none
theorem ZcY{av:Addr->Prop}{H:Hp}{xs:List D}{vs:List V}{i:Int}{d:D}(l:RepL cA av H xs vs)(h:atI xs i=some d):∃v,atI vs i=some v/\Rep cA av H d v:=by
 unfold atI at h ⊢;rw [l.length]at h;cases e:ixN vs.length i with
 |none=>rw [e]at h;cases h
 |some j=>
  rw [e]at h;exact l.get h
theorem ZE:Xm cA (JX cA.K) ixD:=λt t' i H x y vx vy d _ hx hy e Q k=>by
 cases y<;>first|(cases x<;>cases e;done)|skip
 rename_i j;cases(show vy=_ from hy);cases x<;>first|(cases e;done)|skip
 · cases(show vx=_ from hx)
   rename_i cs;dsimp only [ixD]at e
   by_cases hz:cs.length<=sizeLine
   · rw [if_pos hz]at e
     cases ea:atI cs j with
     |none=>rw [ea]at e;cases e
     |some c=>
      rw [ea]at e;cases e;exact .inr (.inr ⟨cs,j,c,rfl,rfl,hz,ea,k _ H (Same.refl H) rfl⟩)
   · rw [if_neg hz]at e;cases e
 · obtain⟨a,vs,rfl,_,rd,l⟩:=hx
   obtain⟨v,h1,h2⟩:=ZcY l e;exact .inl ⟨a,vs,j,v,rfl,rfl,rd,h1,k v H (Same.refl H) h2⟩
 · obtain⟨a,vs,rfl,_,rd,l⟩:=hx
   obtain⟨v,h1,h2⟩:=ZcY l e;exact .inr (.inl ⟨a,vs,j,v,rfl,rfl,SqT.of rd,h1,k v H (Same.refl H) h2⟩)
end
end DL
namespace DL
open PySem PySem.Spec L2
section
variable{cA:Kn}{G:Cn}{ow:List Nat}
def bD:Option D->Option Bool
 |some (.bl b)=>some b
 |_=>none
theorem ZcZ{o:Option D}{b:Bool}(h:bD o=some b):o=some (.bl b):=by
 cases o with
 |none=>cases h
 |some d=>cases d<;>first|(cases h;rfl)|cases h
def xB(ε:Env->Option D)(δ:Env):Option Bool:=bD (ε δ)
theorem XO{te:TE}{q:Ql}{ε:Env->Option D}(h:VE G ow te q ε):VT G ow (tB te) (xB ε):=λH0 av A σ H δ E b e Q k=>
 h H0 av A σ H δ E _ (ZcZ e) _ λv H' s r=>⟨b,by cases q<;>exact r,k H' s⟩
theorem Yj{te:TE}{q:Ql}{ε:Env->Option D}(h:VE G ow te q ε):VT G ow (Zhc te) (xB ε):=λH0 av A σ H δ E b e Q k=>
 h H0 av A σ H δ E _ (ZcZ e) _ λv H' s r=>⟨b,by cases q<;>exact r,k H' s⟩
def YJ(τ:Env->Option Bool)(δ:Env):Option Bool:=match τ δ with
 |some b=>some (!b)
 |none=>none
theorem UE{t:TT}{τ:Env->Option Bool}(h:VT G ow t τ):VT G ow (Zkd t) (YJ τ):=λH0 av A σ H δ E b e Q k=>by
 unfold YJ at e;cases he:τ δ with
 |none=>rw [he]at e;cases e
 |some c=>
  rw [he]at e;cases e;exact h H0 av A σ H δ E c he _ λH' s=>k H' s
def Xa(τ υ:Env->Option Bool)(δ:Env):Option Bool:=match τ δ with
 |some true=>υ δ
 |some false=>some false
 |none=>none
def xOr(τ υ:Env->Option Bool)(δ:Env):Option Bool:=match τ δ with
 |some true=>some true
 |some false=>υ δ
 |none=>none
theorem Zfo{t u:TT}{τ υ:Env->Option Bool}(h:VT G ow t τ)(h':VT G ow u υ):VT G ow (Zkc t u) (Xa τ υ):=λH0 av A σ H δ E b e Q k=>by
 unfold Xa at e;cases he:τ δ with
 |none=>rw [he]at e;cases e
 |some c=>
  rw [he]at e;refine h H0 av A σ H δ E c he _ λH' s => ?_
  cases c with
  |true=>exact V6 (h' H0 av A σ H' δ (E.mono s) b e _ λH2 s2=>k H2 (s.trans s2))
  |false=>cases e;exact V5 (k H' s)
theorem U9{t u:TT}{τ υ:Env->Option Bool}(h:VT G ow t τ)(h':VT G ow u υ):VT G ow (tOr t u) (xOr τ υ):=λH0 av A σ H δ E b e Q k=>by
 unfold xOr at e;cases he:τ δ with
 |none=>rw [he]at e;cases e
 |some c=>
  rw [he]at e;refine h H0 av A σ H δ E c he _ λH' s => ?_
  cases c with
  |true=>cases e;exact V6 (k H' s)
  |false=>exact V5 (h' H0 av A σ H' δ (E.mono s) b e _ λH2 s2=>k H2 (s.trans s2))
theorem X3:VT G ow tYes (λ_=>some true):=λH0 av A σ H δ E b e Q k=>by
 cases e;exact k H (Same.refl H)
theorem blq{av:Addr->Prop}{A:Nat->Option Addr}{H:Hp}{q:Ql}{b:Bool}:RepQ cA av A H q (.bl b) (.bl b):=by cases q<;>exact rfl
def Zkx(a b:Env->Option D)(δ:Env):Option D:=match a δ with
 |some (.bl true)=>b δ
 |some (.bl false)=>some (.bl false)
 |_=>none
def eOr(a b:Env->Option D)(δ:Env):Option D:=match a δ with
 |some (.bl true)=>some (.bl true)
 |some (.bl false)=>b δ
 |_=>none
def Zky(a:Env->Option D)(δ:Env):Option D:=match a δ with
 |some (.bl b)=>some (.bl (!b))
 |_=>none
def eIf(τ:Env->Option Bool)(a b:Env->Option D)(δ:Env):Option D:=match τ δ with
 |some true=>a δ
 |some false=>b δ
 |none=>none
def Qa:D->Bool
 | .non=>true
 |_=>false
theorem Zc0{av:Addr->Prop}{H:Hp}{d:D}{v:V}(h:Rep cA av H d v):decide (v = .non)=Qa d:=by
 cases d with
 |non=>cases(show v=_ from h);rfl
 |bl b=>cases(show v=_ from h);rfl
 |int i=>cases(show v=_ from h);rfl
 |str cs=>cases(show v=_ from h);rfl
 |lst xs=>unfold Rep at h;obtain⟨a,vs,rfl,_⟩:=h;rfl
 |tup xs=>unfold Rep at h;obtain⟨a,vs,rfl,_⟩:=h;rfl
 |obj c ks xs=>unfold Rep at h;obtain⟨a,dx,vs,rfl,_⟩:=h;rfl
 |dct ks xs=>unfold Rep at h;obtain⟨a,vs,rfl,_⟩:=h;rfl
 |dtt ks xs=>unfold Rep at h;obtain⟨a,vs,rfl,_⟩:=h;rfl
def UF(a:Env->Option D)(δ:Env):Option D:=match a δ with
 |some d=>some (.bl (Qa d))
 |none=>none
def Xx(a:Env->Option D)(δ:Env):Option D:=match a δ with
 |some d=>some (.bl (!Qa d))
 |none=>none
theorem Zh7{ta:TE}{qa:Ql}{a:Env->Option D}(ha:VE G ow ta qa a):VE G ow (Zkb ta) .cl (UF a):=λH0 av A σ H δ E d e Q k=>by
 unfold UF at e;cases he:a δ with
 |none=>rw [he]at e;cases e
 |some x=>
  rw [he]at e;cases e;refine ha H0 av A σ H δ E _ he _ λv H' s r => ?_
  rw [Zc0 r.any];exact k _ H' s blq
theorem Zc1{ta:TE}{qa:Ql}{a:Env->Option D}(ha:VE G ow ta qa a):VE G ow (Zg7 ta) .cl (Xx a):=λH0 av A σ H δ E d e Q k=>by
 unfold Xx at e;cases he:a δ with
 |none=>rw [he]at e;cases e
 |some x=>
  rw [he]at e;cases e;refine ha H0 av A σ H δ E _ he _ λv H' s r => ?_
  rw [Zc0 r.any];exact k _ H' s blq
def Ua(f g:D->D->Option D)(a b c:Env->Option D)(δ:Env):Option D:=match eOp f a b δ with
 |some (.bl true)=>eOp g b c δ
 |some (.bl false)=>some (.bl false)
 |_=>none
theorem Zez{p p':Int->Int->Bool}{ta tb tc:TE}{qa qb qc:Ql}{a b c:Env->Option D}(ha:VE G ow ta qa a)(hb:VE G ow tb qb b)(hc:VE G ow tc qc c) :
 VE G ow (Zfg (rI0 λi j => .bl (p i j)) (rI0 λi j => .bl (p' i j)) ta tb tc) .cl (Ua (ZQ p) (ZQ p') a b c):=λH0 av A σ H δ E d e Q k=>by
 unfold Ua at e;cases he:eOp (ZQ p) a b δ with
 |none=>rw [he]at e;cases e
 |some z=>
  rw [he]at e;obtain⟨x,y,ex,ey,ez⟩:=V9 he;cases x<;>cases y<;>first|(cases ez;done)|skip
  rename_i i j;cases ez;refine ha H0 av A σ H δ E _ ex _ λvx H1 s1 r1=>hb H0 av A σ H1 δ (E.mono s1) _ ey _ λvy H2 s2 r2 => ?_
  have e1:vx = .int i:=r1.any;have e2:vy = .int j:=r2.any;subst e1 e2;refine⟨i,j,rfl,rfl,p i j,rfl,?_⟩;have E2:=(E.mono s1).mono s2;cases hp:p i j with
  |false=>
   rw [hp]at e;cases e;exact V5 (k _ H2 (s1.trans s2) blq)
  |true=>
   rw [hp]at e;obtain⟨y',w',ey',ew,ez⟩:=V9 e;rw [ey]at ey';cases ey';cases w'<;>first|(cases ez;done)|skip
   rename_i l;cases ez;refine V6 (hc H0 av A σ H2 δ E2 _ ew _ λvw H3 s3 r3 => ?_);have e3:vw = .int l:=r3.any;subst e3;exact⟨j,l,rfl,rfl,k _ H3 ((s1.trans s2).trans s3) blq⟩
def Zkz:D->Option D
 | .int i=>some (.int (-i))
 |_=>none
def eUn(f:D->Option D)(a:Env->Option D)(δ:Env):Option D:=match a δ with
 |some x=>f x
 |none=>none
def eNil(_:Env):Option (List D):=some []
def Zb(a:Env->Option D)(r:Env->Option (List D))(δ:Env):Option (List D):=match a δ with
 |some x=>match r δ with
  |some xs=>some (x::xs)
  |none=>none
 |none=>none
theorem Zm{q:Ql}:VA G ow tNil q eNil:=λH0 av A σ H δ E ds e Q k=>by
 cases e;exact k [] H (Same.refl H) rfl
theorem Zf{te:TE}{ta:TA}{q:Ql}{a:Env->Option D}{r:Env->Option (List D)}(ha:VE G ow te q a)(hr:VA G ow ta q r):VA G ow (VN te ta) q (Zb a r):=λH0 av A σ H δ E ds e Q k=>by
 unfold Zb at e;cases he:a δ with
 |none=>rw [he]at e;cases e
 |some x=>
  rw [he]at e;cases hr':r δ with
  |none=>rw [hr']at e;cases e
  |some xs=>
   rw [hr']at e;cases e;exact ha H0 av A σ H δ E x he _ λv H1 s1 r1=>hr H0 av A σ H1 δ (E.mono s1) xs hr' _ λvs H2 s2 r2=>k _ H2 (s1.trans s2) ⟨v,vs,rfl,r1.same s2,r2⟩
theorem RepQL.length{av:Addr->Prop}{A:Nat->Option Addr}{H:Hp}{q:Ql}{xs:List D}{vs:List V}(h:RepQL cA av A H q xs vs):xs.length=vs.length:=h.any.length
def Zv(α:Env->Option (List D))(δ:Env):Option D:=match α δ with
 |some xs=>if xs.length<=sizeLine then some (.lst xs)else none
 |none=>none
theorem Yw{t:TA}{α:Env->Option (List D)}(h:VA G ow t .cl α):VF G ow (Zko t) (Zv α):=λH0 av A σ H δ E d e Q k=>by
 unfold Zv at e;cases he:α δ with
 |none=>rw [he]at e;cases e
 |some xs=>
  rw [he]at e
  by_cases hz:xs.length<=sizeLine
  · have e':D.lst xs=d:=by simpa [hz]using e
    exact h H0 av A σ H δ E xs he _ λvs H1 s1 r1=>⟨by rw [<-r1.length];exact hz,λp hp=>k p vs xs H1 s1 hp r1.cl e'.symm⟩
  · simp [hz]at e
def Yc(α:Env->Option (List D))(δ:Env):Option D:=match α δ with
 |some xs=>if xs.length<=sizeLine then some (.tup xs)else none
 |none=>none
theorem Vl{t:TA}{α:Env->Option (List D)}(h:VA G ow t .cl α):VE G ow (Zkn t) .cl (Yc α):=λH0 av A σ H δ E d e Q k=>by
 unfold Yc at e;cases he:α δ with
 |none=>rw [he]at e;cases e
 |some xs=>
  rw [he]at e
  by_cases hz:xs.length<=sizeLine
  · have e':D.tup xs=d:=by simpa [hz]using e
    subst e';refine h H0 av A σ H δ E xs he _ λvs H1 s1 r1=>⟨by rw [<-r1.length];exact hz,λp hp=>k _ _ (s1.trans (Yb hp)) ⟨p,vs,rfl,λz=>(E.mono s1).avl p z hp,ZL,r1.cl.same (Yb hp)⟩⟩
  · simp [hz]at e
def Vm(cA:Kn)(i:Addr->Prop)(H:Hp):List D->List V->Prop
 | [],vs=>vs=[]
 |x::xs,vs=>∃v r,vs=v::r/\(∃t,RepT cA t i H x v)/\Vm cA i H xs r
theorem RepQL.il{av:Addr->Prop}{A:Nat->Option Addr}{H:Hp}{q:Ql}:∀{xs:List D}{vs:List V},RepQL cA av A H q xs vs->Vm cA (q.iv av A) H xs vs
 | [],_,h=>h
 |x::xs,vs,h=>by
  obtain⟨v,r,e,h1,h2⟩:=h;exact⟨v,r,e,⟨_,h1.tp⟩,RepQL.il h2⟩
def UG(cA:Kn)(r:List V->Hp->VK->Prop)(f:List D->Option D):Prop:=
 ∀(i:Addr->Prop)(H:Hp)(ds:List D)(vs:List V)(d:D),(∀a,i a->H a≠none)->Vm cA i H ds vs->f ds=some d->∀Q:VK,(∀v H',Same H H'->Rep cA i H' d v->Q v H')->r vs H Q
def eCB(f:List D->Option D)(α:Env->Option (List D))(δ:Env):Option D:=match α δ with
 |some ds=>f ds
 |none=>none
theorem ZV{r:List V->Hp->VK->Prop}{f:List D->Option D}{t:TA}{q:Ql}{α:Env->Option (List D)}(hr:UG G.1 r f)(h:VA G ow t q α):VE G ow (tCB r t) q.it (eCB f α):=λH0 av A σ H δ E d e Q k=>by
 unfold eCB at e;cases he:α δ with
 |none=>rw [he]at e;cases e
 |some ds=>
  rw [he]at e;refine h H0 av A σ H δ E ds he _ λvs H1 s1 r1 => ?_
  have E1:=E.mono s1;cases q with
  |cl=>exact hr _ H1 ds vs d E1.avl r1.il e _ λv H' s r=>k v H' (s1.trans s) r.t
  |tp=>exact hr _ H1 ds vs d E1.avl r1.il e _ λv H' s r=>k v H' (s1.trans s) r.t
  |dt=>exact hr _ H1 ds vs d E1.avH r1.il e _ λv H' s r=>k v H' (s1.trans s) r.t
theorem il1{i:Addr->Prop}{H:Hp}{x:D}{vs:List V}(h:Vm cA i H [x] vs):∃v t,vs=[v]/\RepT cA t i H x v:=by
 obtain⟨v,r,rfl,⟨t,h1⟩,h2⟩:=h;cases(show r=[]from h2);exact⟨v,t,rfl,h1⟩
theorem il2{i:Addr->Prop}{H:Hp}{x y:D}{vs:List V}(h:Vm cA i H [x,y] vs):∃v u t t',vs=[v,u]/\RepT cA t i H x v/\RepT cA t' i H y u:=by
 obtain⟨v,r,rfl,⟨t,h1⟩,u,r',rfl,⟨t',h2⟩,h3⟩:=h;cases(show r'=[]from h3);exact⟨v,u,t,t',rfl,h1,h2⟩
def lenD:List D->Option D
 | [.str a]=>if a.length<=sizeLine then some (.int a.length)else none
 | [.lst xs]=>some (.int xs.length)
 | [.tup xs]=>some (.int xs.length)
 |_=>none
theorem Z7:UG cA (JZ cA.K) lenD:=λi H ds vs d _ h e Q k=>by
 cases ds with
 |nil=>cases e
 |cons x r=>
  cases r with
  |cons _ _=>cases x<;>cases e
  |nil=>
   obtain⟨v,t,rfl,hx⟩:=il1 h;cases x<;>first|(cases e;done)|skip
   · rename_i a
     dsimp only [lenD]at e
     by_cases hz:a.length<=sizeLine
     · rw [if_pos hz]at e
       cases e;exact .inl ⟨a,by rw [show v=S a from hx],hz,k _ H (Same.refl H) rfl⟩
     · rw [if_neg hz]at e;cases e
   · obtain⟨a,ws,rfl,_,rd,l⟩:=hx
     cases e;exact .inr ⟨a,ws,rfl,.inl rd,k _ H (Same.refl H) (by rw [l.length];rfl)⟩
   · obtain⟨a,ws,rfl,_,rd,l⟩:=hx
     cases e;exact .inr ⟨a,ws,rfl,.inr (SqT.of rd),k _ H (Same.refl H) (by rw [l.length];rfl)⟩
def minD:List D->Option D
 | [.int i,.int j]=>some (.int (if j<i then j else i))
 |_=>none
def ZkA:List D->Option D
 | [.int i,.int j]=>some (.int (if j>i then j else i))
 |_=>none
theorem Zgb{ds:List D}{d:D}(e:minD ds=some d):∃i j,ds=[.int i,.int j]/\d = .int (if j<i then j else i):=by
 unfold minD at e
 split at e
 · exact⟨_,_,rfl,(Option.some.inj e).symm⟩
 · cases e
theorem Zfp:UG cA (λxs H Q=>∃i j,xs=[.int i,.int j]/\Q (.int (if j<i then j else i)) H) minD:=λi H ds vs d _ h e Q k=>by
 obtain⟨a,b,rfl,rfl⟩:=Zgb e;obtain⟨v,u,t,t',rfl,h1,h2⟩:=il2 h;cases(show v=_ from h1);cases(show u=_ from h2);exact⟨a,b,rfl,k _ H (Same.refl H) rfl⟩
def VR:List D->Option (List Bool)
 | []=>some []
 | .bl b::r=>match VR r with
  |some bs=>some (b::bs)
  |none=>none
 |_=>none
theorem ZbI:∀{xs:List D}{bs:List Bool},VR xs=some bs->xs=bs.map D.bl
 | [],bs,h=>by cases h;rfl
 |x::xs,bs,h=>by
  cases x<;>first|(cases h;done)|skip
  rename_i b;unfold VR at h;cases hr:VR xs with
  |none=>rw [hr]at h;cases h
  |some cs=>
   rw [hr]at h;cases h;rw [List.map_cons,ZbI hr]
def Qb(f:List Bool->Bool):List D->Option D
 | [.lst xs]=>match VR xs with
  |some bs=>some (.bl (f bs))
  |none=>none
 |_=>none
theorem Zh8{f:List Bool->Bool}:UG cA (J0 cA.K f) (Qb f):=λi H ds vs d _ h e Q k=>by
 unfold Qb at e
 split at e
 · rename_i xs
   cases hb:VR xs with
   |none=>rw [hb]at e;cases e
   |some bs=>
    rw [hb]at e;cases e;obtain⟨v,t,rfl,a,ws,rfl,_,rd,l⟩:=il1 h;have ex:=ZbI hb;subst ex;have ev:=l.vals (by rw [List.all_map];exact List.all_eq_true.mpr λ_ _=>rfl);rw [List.map_map]at ev;subst ev;exact⟨a,bs,rfl,rd,k _ H (Same.refl H) rfl⟩
 · cases e
def Z0:List D->Option D
 | [.lst xs]=>some (.tup xs)
 | [.tup xs]=>some (.tup xs)
 |_=>none
def Zhr:List D->Option D
 | [.lst xs]=>some (.lst xs)
 | [.tup xs]=>some (.lst xs)
 |_=>none
theorem XQ{t:TA}{α:Env->Option (List D)}(h:VA G ow t .cl α):VE G ow (tCB (Zfj G.1.K) t) .cl (eCB Z0 α):=λH0 av A σ H δ E d e Q k=>by
 unfold eCB at e;cases he:α δ with
 |none=>rw [he]at e;cases e
 |some ds=>
  rw [he]at e;refine h H0 av A σ H δ E ds he _ λvs H1 s1 r1 => ?_
  have E1:=E.mono s1;have e:Z0 ds=some d:=e;unfold Z0 at e
  split at e
  · rename_i xs
    cases e;obtain⟨v,r,rfl,⟨a,ws,rfl,_,rd,l⟩,h2⟩:=r1;cases(show r=[]from h2);exact⟨a,ws,rfl,.inl ⟨rd,λp hp=>k _ _ (s1.trans (Yb hp)) ⟨p,ws,rfl,λz=>E1.avl p z hp,ZL,l.same (Yb hp)⟩⟩⟩
  · rename_i xs
    cases e;obtain⟨v,r,rfl,⟨a,ws,rfl,na,rd,l⟩,h2⟩:=r1;cases(show r=[]from h2);exact⟨a,ws,rfl,.inr ⟨SqT.of rd,k _ H1 s1 ⟨a,ws,rfl,na,rd,l⟩⟩⟩
  · cases e
end
end DL
namespace DL
open PySem PySem.Spec L2
inductive Out where
 |nx (δ:Env)
 |rt (d:D)
 |bk (δ:Env)
 |ct (δ:Env)
def Zi3(G:Cn)(owN owB owC:List Nat)(H0:Hp)(av:Addr->Prop)(De:Ends):Out->Prop
 | .nx δ'=>∀A' σ' H',ER G owN H0 av A' σ' H' δ'->De.nx σ' H'
 | .rt d=>∀v H',Same H0 H'->Rep G.1 av H' d v->De.rt v H'
 | .bk δ'=>∀A' σ' H',ER G owB H0 av A' σ' H' δ'->De.bk σ' H'
 | .ct δ'=>∀A' σ' H',ER G owC H0 av A' σ' H' δ'->De.ct σ' H'
def VS(G:Cn)(ow owN owB owC:List Nat)(ts:TS)(φ:Env->Option Out):Prop:=
 ∀H0 av A σ H δ,ER G ow H0 av A σ H δ->∀o,φ δ=some o->∀De:Ends,Zi3 G owN owB owC H0 av De o->ts De σ H
def VG(G:Cn)(ow ow':List Nat)(g:TG)(γ:D->Env->Option Env):Prop:=
 ∀H0 av A σ H δ,ER G ow H0 av A σ H δ->∀d v,Rep G.1 (AV av A) H d v->∀δ',γ d δ=some δ'->∀Q:L2.St->Hp->Prop,(∀A' σ' H',Same H H'->ER G ow' H0 av A' σ' H' δ'->Q σ' H')->g v σ H Q
def sub(a b:List Nat):Bool:=a.all λx=>b.contains x
theorem UH{a b:List Nat}(h:sub a b=true):∀x∈a,x∈b:=λx hx=>by
 have:=List.all_eq_true.mp h x hx;simpa using this
section
variable{cA:Kn}{G:Cn}{ow owN owB owC ow1 ow2:List Nat}{H0 H H':Hp}{av:Addr->Prop}{A:Nat->Option Addr}{σ:L2.St}{δ:Env}
theorem UI{α:Type}{l:List (Option α)}{i j:Nat}{x y:α}(h:(l.set i (some x))[j]? = some (some y)):(j=i/\y=x/\i<l.length)\/(j≠i/\l[j]? = some (some y)):=by
 by_cases e:j=i
 · subst e
   by_cases hl:j<l.length
   · rw [List.getElem?_set_self hl]at h
     exact .inl ⟨rfl,(Option.some.inj (Option.some.inj h)).symm,hl⟩
   · rw [List.getElem?_eq_none (by simpa using hl)]at h
     cases h
 · rw [List.getElem?_set_ne (Ne.symm e)]at h
   exact .inr ⟨e,h⟩
theorem ER.set{i:Nat}{d:D}{v:V}(E:ER G ow H0 av A σ H δ)(h:Rep G.1 (AV av A) H d v)(hw:∀j,j∈ow1 ↔ j∈ow/\j≠i)(hn:G.2 i=none) :
 ER G ow1 H0 av (λj=>if j=i then none else A j) (σ.set i (some v)) H (δ.set i (some d)):=by
 have less:∀b,AV av (λj=>if j=i then none else A j) b->AV av A b:=λb z=>by
  rcases z with z|⟨j,z⟩
  · exact .inl z
  · by_cases e:j=i
    · simp [e]at z
    · simp [e]at z;exact .inr ⟨j,z⟩
 refine⟨E.same,E.avd,λj a e => ?_,λj k a e1 e2 => ?_,λj a e => ?_,λj e => ?_,λj hj => ?_,by simp [E.len],λj a e=>(by
  have q:j≠i:=λz=>by rw [z,hn]at e;cases e
  simp only [q,if_false];exact E.pin j a e),(λj v' e=>by
  have q:j≠i:=λz=>by rw [z,hn]at e;cases e
  rw [List.getElem?_set_ne (Ne.symm q)];exact E.kept j v' e),λj d' e => ?_⟩
 · by_cases q:j=i
   · simp [q]at e
   · simp [q]at e;exact E.fr j a e
 · by_cases q:j=i
   · simp [q]at e1
   · by_cases q2:k=i
     · simp [q2]at e2
     · simp [q]at e1;simp [q2]at e2;exact E.inj j k a e1 e2
 · by_cases q:j=i
   · simp [q]at e
   · simp [q]at e;exact E.live j a e
 · by_cases q:j=i
   · simp [q]at e
   · simp [q]at e;exact(hw j).mpr ⟨E.dom j e,q⟩
 · obtain⟨h1,h2⟩:=(hw j).mp hj
   simp [h2];exact E.dom' j h1
 · rcases UI e with⟨rfl,rfl,hl⟩|⟨q,e'⟩
   · refine⟨v,?_,λ_=>h.av λb z => .inl (less b z),λa z=>by simp at z⟩
     rw [List.getElem?_set_self (by rw [E.len];exact hl)]
   · obtain⟨v',h1,h2,h3⟩:=E.var j d' e'
     refine⟨v',by rw [List.getElem?_set_ne (Ne.symm q)];exact h1,λz => ?_,λa z => ?_⟩
     · simp [q]at z
       exact(h2 z).av λb z => .inl (less b z)
     · simp [q]at z
       obtain⟨r1,r2⟩:=h3 a z;refine⟨r1,?_⟩;cases d' with
       |lst xs=>obtain⟨vs,q1,q2⟩:=r2;exact⟨vs,q1,q2.av λb z => .inl (less b z)⟩
       |obj c ks xs=>obtain⟨dx,vs,q1,q0,q2⟩:=r2;exact⟨dx,vs,q1,q0,q2.av λb z => .inl (less b z)⟩
       |dct ks xs=>obtain⟨vs,q1,q0,q2⟩:=r2;exact⟨vs,q1,q0,q2.av λb z => .inl (less b z)⟩
       |dtt ks xs=>obtain⟨vs,q1,q0,q2⟩:=r2;exact⟨vs,q1,q0,q2.av λb z => .inl (less b z)⟩
       |_=>exact r2
theorem ER.own{i:Nat}{xs:List D}{vs:List V}{p:Addr}(E:ER G ow H0 av A σ H δ)(hp:H p=none)(l:RepL G.1 (AV av A) H xs vs)(hw:∀j,j∈ow1 ↔ j∈ow\/j=i)(hn:G.2 i=none) :
 ER G ow1 H0 av (λj=>if j=i then some p else A j) (σ.set i (some (.ref p))) (upd H p (.lst vs)) (δ.set i (some (.lst xs))):=by
 have hs:Same H (upd H p (.lst vs)):=Yb hp
 have less:∀b,AV av (λj=>if j=i then some p else A j) b->AV av A b\/H b=none:=λb z=>by
  rcases z with z|⟨j,z⟩
  · exact .inl (.inl z)
  · by_cases e:j=i
    · simp [e]at z;subst z;exact .inr hp
    · simp [e]at z;exact .inl (.inr ⟨j,z⟩)
 have np:∀j a,A j=some a->a≠p:=λj a e z=>by subst z;exact E.live j a e hp
 have h0:H0 p=none:=by
  cases q:H0 p with
  |none=>rfl
  |some o=>rw [E.same p o q]at hp;cases hp
 refine⟨E.same.trans hs,E.avd,λj a e => ?_,λj k a e1 e2 => ?_,λj a e => ?_,λj e => ?_,λj hj => ?_,by simp [E.len],λj a e=>(by
  have q:j≠i:=λz=>by rw [z,hn]at e;cases e
  simp only [q,if_false];exact E.pin j a e),(λj v' e=>by
  have q:j≠i:=λz=>by rw [z,hn]at e;cases e
  rw [List.getElem?_set_ne (Ne.symm q)];exact E.kept j v' e),λj d' e => ?_⟩
 · by_cases q:j=i
   · simp [q]at e;subst e;exact h0
   · simp [q]at e;exact E.fr j a e
 · by_cases q:j=i
   · by_cases q2:k=i
     · rw [q,q2]
     · simp [q]at e1;simp [q2]at e2
       exact absurd e1.symm (np k a e2)
   · by_cases q2:k=i
     · simp [q]at e1;simp [q2]at e2
       exact absurd e2.symm (np j a e1)
     · simp [q]at e1;simp [q2]at e2;exact E.inj j k a e1 e2
 · by_cases q:j=i
   · simp [q]at e;subst e;rw [ZL];exact λz=>by cases z
   · simp [q]at e
     rw [Zs (np j a e)];exact E.live j a e
 · by_cases q:j=i
   · exact(hw j).mpr (.inr q)
   · simp [q]at e;exact(hw j).mpr (.inl (E.dom j e))
 · by_cases q:j=i
   · simp [q]
   · simp [q]
     exact E.dom' j (((hw j).mp hj).resolve_right q)
 · rcases UI e with⟨rfl,rfl,hl⟩|⟨q,e'⟩
   · refine⟨.ref p,?_,λz=>by simp at z,λa z => ?_⟩
     · rw [List.getElem?_set_self (by rw [E.len];exact hl)]
     · simp at z
       subst z;exact⟨rfl,vs,ZL,(l.av less).same hs⟩
   · obtain⟨v',h1,h2,h3⟩:=E.var j d' e'
     refine⟨v',by rw [List.getElem?_set_ne (Ne.symm q)];exact h1,λz => ?_,λa z => ?_⟩
     · simp [q]at z
       exact((h2 z).av less).same hs
     · simp [q]at z
       obtain⟨r1,r2⟩:=h3 a z;refine⟨r1,?_⟩;cases d' with
       |lst xs=>obtain⟨vs',q1,q2⟩:=r2;exact⟨vs',hs _ _ q1,(q2.av less).same hs⟩
       |obj c ks xs=>obtain⟨dx,vs',q1,q0,q2⟩:=r2;exact⟨dx,vs',hs _ _ q1,q0,(q2.av less).same hs⟩
       |dct ks xs=>obtain⟨vs',q1,q0,q2⟩:=r2;exact⟨vs',hs _ _ q1,q0,(q2.av less).same hs⟩
       |dtt ks xs=>obtain⟨vs',q1,q0,q2⟩:=r2;exact⟨vs',hs _ _ q1,q0,(q2.av less).same hs⟩
       |_=>exact r2
theorem ER.put{i:Nat}{a:Addr}{d d':D}(E:ER G ow H0 av A σ H δ)(hi:A i=some a)(hd:δ[i]? = some (some d))(hk:∀b o,b≠a->H b=some o->H' b=some o)(hl:H' a≠none)(ho:Own G.1 (AV av A) H' d' a) :
 ER G ow H0 av A σ H' (δ.set i (some d')):=by
 have kk:∀b o,¬AV av A b->H b=some o->H' b=some o:=λb o n e=>hk b o (λz=>n (.inr ⟨i,by rw [z];exact hi⟩)) e
 refine⟨λb o e=>hk b o (λz => ?_) (E.same b o e),E.avd,E.fr,E.inj,λj b e => ?_,E.dom,E.dom',by simp [E.len],E.pin,E.kept,λj d'' e => ?_⟩
 · rw [z,E.fr i a hi]at e;cases e
 · by_cases q:b=a
   · subst q;exact hl
   · have:=E.live j b e
     cases e':H b with
     |none=>exact absurd e' this
     |some o=>rw [hk b o q e'];exact λz=>by cases z
 · rcases UI e with⟨rfl,rfl,hl'⟩|⟨q,e'⟩
   · obtain⟨v,h1,_,h3⟩:=E.var j d hd
     obtain⟨r1,_⟩:=h3 a hi
     exact⟨v,h1,λz=>(by rw [hi]at z;cases z),λb z=>by
      rw [hi]at z;cases z;exact⟨r1,ho⟩⟩
   · obtain⟨v',h1,h2,h3⟩:=E.var j d'' e'
     refine⟨v',h1,λz=>(h2 z).ext kk,λb z => ?_⟩;obtain⟨r1,r2⟩:=h3 b z;have nb:b≠a:=λw=>q (E.inj j i a (by rw [<-w];exact z) hi)
     refine⟨r1,?_⟩;cases d'' with
     |lst xs=>obtain⟨vs,q1,q2⟩:=r2;exact⟨vs,hk _ _ nb q1,q2.ext kk⟩
     |obj c ks xs=>obtain⟨dx,vs,q1,q0,q2⟩:=r2;exact⟨dx,vs,hk _ _ nb q1,q0,q2.ext kk⟩
     |dct ks xs=>obtain⟨vs,q1,q0,q2⟩:=r2;exact⟨vs,hk _ _ nb q1,q0,q2.ext kk⟩
     |dtt ks xs=>obtain⟨vs,q1,q0,q2⟩:=r2;exact⟨vs,hk _ _ nb q1,q0,q2.ext kk⟩
     |_=>exact r2
theorem ER.freeze(i:Nat)(E:ER G ow H0 av A σ H δ)(hw:∀j,j∈ow1 ↔ j∈ow/\j≠i)(hn:G.2 i=none):ER G ow1 H0 av (λj=>if j=i then none else A j) σ H δ:=by
 have less:∀b,AV av (λj=>if j=i then none else A j) b->AV av A b:=λb z=>by
  rcases z with z|⟨j,z⟩
  · exact .inl z
  · by_cases e:j=i
    · simp [e]at z
    · simp [e]at z;exact .inr ⟨j,z⟩
 refine⟨E.same,E.avd,λj a e => ?_,λj k a e1 e2 => ?_,λj a e => ?_,λj e => ?_,λj hj => ?_,E.len,λj a e=>(by
  have q:j≠i:=λz=>by rw [z,hn]at e;cases e
  simp only [q,if_false];exact E.pin j a e),E.kept,λj d' e => ?_⟩
 · by_cases q:j=i
   · simp [q]at e
   · simp [q]at e;exact E.fr j a e
 · by_cases q:j=i
   · simp [q]at e1
   · by_cases q2:k=i
     · simp [q2]at e2
     · simp [q]at e1;simp [q2]at e2;exact E.inj j k a e1 e2
 · by_cases q:j=i
   · simp [q]at e
   · simp [q]at e;exact E.live j a e
 · by_cases q:j=i
   · simp [q]at e
   · simp [q]at e;exact(hw j).mpr ⟨E.dom j e,q⟩
 · obtain⟨h1,h2⟩:=(hw j).mp hj
   simp [h2];exact E.dom' j h1
 · obtain⟨v',h1,h2,h3⟩:=E.var j d' e
   refine⟨v',h1,λz => ?_,λa z => ?_⟩
   · by_cases q:j=i
     · subst q
       cases hA:A j with
       |none=>exact(h2 hA).av λb z => .inl (less b z)
       |some a=>
        obtain⟨rfl,r2⟩:=h3 a hA
        have na:¬AV av (λk=>if k=j then none else A k) a:=λz=>by
         rcases z with z|⟨k,z⟩
         · exact E.avd a z (E.fr j a hA)
         · by_cases qk:k=j
           · simp [qk]at z
           · simp [qk]at z;exact qk (E.inj k j a z hA)
        cases d' with
        |lst xs=>obtain⟨vs,q1,q2⟩:=r2;unfold Rep;exact⟨a,vs,rfl,λz=>(na z).elim,SqL.of q1,q2.av λb z => .inl (less b z)⟩
        |obj c ks xs=>obtain⟨dx,vs,q1,q0,q2⟩:=r2;unfold Rep;exact⟨a,dx,vs,rfl,na,q1,q0,q2.av λb z => .inl (less b z)⟩
        |dct ks xs=>obtain⟨vs,q1,q0,q2⟩:=r2;unfold Rep;exact⟨a,vs,rfl,na,q1,q0,q2.av λb z => .inl (less b z)⟩
        |dtt ks xs=>obtain⟨vs,q1,q0,q2⟩:=r2;unfold Rep;exact⟨a,vs,rfl,na,q1,q0,q2.av λb z => .inl (less b z)⟩
        |_=>exact False.elim r2
     · simp [q]at z
       exact(h2 z).av λb z => .inl (less b z)
   · by_cases q:j=i
     · simp [q]at z
     · simp [q]at z
       obtain⟨r1,r2⟩:=h3 a z;refine⟨r1,?_⟩;cases d' with
       |lst xs=>obtain⟨vs,q1,q2⟩:=r2;exact⟨vs,q1,q2.av λb z => .inl (less b z)⟩
       |obj c ks xs=>obtain⟨dx,vs,q1,q0,q2⟩:=r2;exact⟨dx,vs,q1,q0,q2.av λb z => .inl (less b z)⟩
       |dct ks xs=>obtain⟨vs,q1,q0,q2⟩:=r2;exact⟨vs,q1,q0,q2.av λb z => .inl (less b z)⟩
       |dtt ks xs=>obtain⟨vs,q1,q0,q2⟩:=r2;exact⟨vs,q1,q0,q2.av λb z => .inl (less b z)⟩
       |_=>exact r2
open Classical in
noncomputable def cut(A:Nat->Option Addr)(H:Hp):Hp:=λb=>if ∃i,A i=some b then none else H b
theorem ZbJ{b:Addr}{o:HO}(h:cut A H b=some o):H b=some o/\¬∃i,A i=some b:=by
 unfold cut at h
 by_cases e:∃i,A i=some b
 · rw [if_pos e]at h;cases h
 · rw [if_neg e]at h;exact⟨h,e⟩
theorem Vn{b:Addr}(e:¬∃i,A i=some b):cut A H b=H b:=by
 unfold cut;rw [if_neg e]
theorem ER.cut(E:ER G ow H0 av A σ H δ):ER G ow (DL.cut A H) av A σ H δ:=by
 refine⟨λb o e=>(ZbJ e).1,λa z => ?_,λi a e => ?_,E.inj,E.live,E.dom,E.dom',E.len,E.pin,E.kept,E.var⟩
 · rw [Vn λ⟨i,e⟩=>E.avd a z (E.fr i a e)]
   exact E.avH a z
 · unfold DL.cut
   rw [if_pos ⟨i,e⟩]
theorem ER.sub0(E:ER G ow H0 av A σ H δ):Same H0 (DL.cut A H):=λb o e=>by
 rw [Vn λ⟨i,z⟩=>by rw [E.fr i b z]at e;cases e];exact E.same b o e
theorem ER.uncut{A':Nat->Option Addr}{σ':L2.St}{δ':Env}(E:ER G ow H0 av A σ H δ)(E':ER G ow1 (DL.cut A H) av A' σ' H' δ'):ER G ow1 H0 av A' σ' H' δ':=
 ⟨E.sub0.trans E'.same,E.avd,λi a e=>E.sub0.free (E'.fr i a e),E'.inj,E'.live,E'.dom,E'.dom',E'.len,E'.pin,E'.kept,E'.var⟩
def sNext(δ:Env):Option Out:=some (.nx δ)
theorem Yk:VS G ow ow owB owC tNext sNext:=λH0 av A σ H δ E o e De k=>by
 cases e;exact k A σ H E
def Zd(φ ψ:Env->Option Out)(δ:Env):Option Out:=match φ δ with
 |some (.nx δ')=>ψ δ'
 |r=>r
theorem Zr{t u:TS}{φ ψ:Env->Option Out}(h1:VS G ow ow1 owB owC t φ)(h2:VS G ow1 owN owB owC u ψ):VS G ow owN owB owC (Zke t u) (Zd φ ψ):=λH0 av A σ H δ E o e De k=>by
 unfold Zd at e;cases he:φ δ with
 |none=>rw [he]at e;cases e
 |some o1=>
  rw [he]at e;refine h1 H0 av A σ H δ E o1 he _ ?_;cases o1 with
  |nx δ'=>exact λA' σ' H' E'=>h2 H0 av A' σ' H' δ' E' o e De k
  |rt d=>cases e;exact k
  |bk δ'=>cases e;exact k
  |ct δ'=>cases e;exact k
def sIf(τ:Env->Option Bool)(φ ψ:Env->Option Out)(δ:Env):Option Out:=match τ δ with
 |some true=>φ δ
 |some false=>ψ δ
 |none=>none
theorem Yd{c:TT}{t u:TS}{τ:Env->Option Bool}{φ ψ:Env->Option Out}(hc:VT G ow c τ)(h1:VS G ow owN owB owC t φ)(h2:VS G ow owN owB owC u ψ):VS G ow owN owB owC (Zkg c t u) (sIf τ φ ψ):=λH0 av A σ H δ E o e De k=>by
 unfold sIf at e;cases he:τ δ with
 |none=>rw [he]at e;cases e
 |some b=>
  rw [he]at e;refine hc H0 av A σ H δ E b he _ λH' s => ?_
  cases b with
  |true=>exact V6 (h1 H0 av A σ H' δ (E.mono s) o e De k)
  |false=>exact V5 (h2 H0 av A σ H' δ (E.mono s) o e De k)
def ZA(ε:Env->Option D)(δ:Env):Option Out:=match ε δ with
 |some d=>some (.rt d)
 |none=>none
theorem Z4{te:TE}{q:Ql}{ε:Env->Option D}(h:VE G ow te q ε):VS G ow owN owB owC (Zkf te) (ZA ε):=λH0 av A σ H δ E o e De k=>by
 unfold ZA at e;cases he:ε δ with
 |none=>rw [he]at e;cases e
 |some d=>
  rw [he]at e;cases e;exact h H0 av A σ H δ E d he _ λv H' s r=>k v H' (E.same.trans s) r.any
def Zhs(_:Env):Option Out:=some (.rt .non)
def sNever(_:Env):Option Out:=none
theorem Qc{ts:TS}:VS G ow owN owB owC ts sNever:=λH0 av A σ H δ E o e De k=>by cases e
def Zg(i:Nat)(ε:Env->Option D)(δ:Env):Option Out:=match ε δ with
 |some d=>some (.nx (δ.set i (some d)))
 |none=>none
theorem Qd{i:Nat}(h1:sub ow1 ow=true)(h2:ow1.contains i=false)(h3:sub ow (i::ow1)=true):∀j,j∈ow1 ↔ j∈ow/\j≠i:=λj=>by
 constructor
 · intro h
   refine⟨UH h1 j h,λe => ?_⟩;subst e;have:j∉ow1:=by simpa using h2
   exact this h
 · rintro⟨h,n⟩
   rcases List.mem_cons.mp (UH h3 j h)with e|e
   · exact absurd e n
   · exact e
theorem ZaC{i:Nat}(h1:sub ow1 (i::ow)=true)(h2:ow1.contains i=true)(h3:sub ow ow1=true):∀j,j∈ow1 ↔ j∈ow\/j=i:=λj=>by
 constructor
 · intro h
   rcases List.mem_cons.mp (UH h1 j h)with e|e
   · exact .inr e
   · exact .inl e
 · rintro(h|rfl)
   · exact UH h3 j h
   · simpa using h2
theorem ZK{te:TE}{ε:Env->Option D}(i:Nat)(h:VE G ow te .cl ε)(hn:G.2 i=none)(h1:sub owN ow=true)(h2:owN.contains i=false)(h3:sub ow (i::owN)=true):VS G ow owN owB owC (XH te (XG i)) (Zg i ε):=λH0 av A σ H δ E o e De k=>by
 unfold Zg at e;cases he:ε δ with
 |none=>rw [he]at e;cases e
 |some d=>
  rw [he]at e;cases e;exact h H0 av A σ H δ E d he _ λv H' s r=>k _ _ H' ((E.mono s).set (RepT.r r) (Qd h1 h2 h3) hn)
theorem Xn{te:TE}{ε:Env->Option D}(i:Nat)(h:VF G ow te ε)(hn:G.2 i=none)(h1:sub owN (i::ow)=true)(h2:owN.contains i=true)(h3:sub ow owN=true):VS G ow owN owB owC (XH te (XG i)) (Zg i ε):=λH0 av A σ H δ E o e De k=>by
 unfold Zg at e;cases he:ε δ with
 |none=>rw [he]at e;cases e
 |some d=>
  rw [he]at e;cases e;refine h H0 av A σ H δ E d he _ λp vs xs H1 s hp l hd => ?_
  subst hd;exact k _ _ _ ((E.mono s).own hp l (ZaC h1 h2 h3) hn)
def Zht(ε:Env->Option D)(δ:Env):Option Out:=match ε δ with
 |some _=>some (.nx δ)
 |none=>none
def ZW(i:Nat)(ε:Env->Option D)(δ:Env):Option Out:=match Za i δ with
 |some (.lst xs)=>match ε δ with
  |some d=>if xs.length<sizeLine then some (.nx (δ.set i (some (.lst (xs++[d])))))else none
  |none=>none
 |_=>none
theorem Xy{K:PySem.W.Frag}{te:TE}{ε:Env->Option D}(i:Nat)(hi:ow.contains i=true)(h:VE G ow te .cl ε):VS G ow ow owB owC (Zg8 (tBM K "list" rAppend (Xr i) (VN te tNil))) (ZW i ε):=λH0 av A σ H δ E o e De k=>by
 unfold ZW at e;cases hv:Za i δ with
 |none=>rw [hv]at e;cases e
 |some x=>
  rw [hv]at e;cases x<;>first|(cases e;done)|skip
  rename_i xs;dsimp only at e;cases he:ε δ with
  |none=>rw [he]at e;cases e
  |some d=>
   rw [he]at e;dsimp only at e
   by_cases hz:xs.length<sizeLine
   · rw [if_pos hz]at e
     cases e;have hi':i∈ow:=by simpa using hi
     cases hA:A i with
     |none=>exact absurd hA (E.dom' i hi')
     |some a=>
      obtain⟨v,h1,_,h3⟩:=E.var i _ (YI hv);obtain⟨rfl,vs,q1,q2⟩:=h3 a hA;refine⟨_,h1,.inl ⟨rfl,vs,SqL.of q1⟩,h H0 av A σ H δ E d he _ λv H' s r => ?_⟩;have E':=E.mono s;have q1':=s _ _ q1;refine⟨a,vs,v,rfl,rfl,q1',by rw [<-q2.length];exact hz,k A σ _ (E'.put hA (YI hv) (λb o hb e=>by rw [Zs hb];exact e) (by rw [ZL];exact λz=>by cases z) ⟨_,ZL,?_⟩)⟩
      have ex:∀b o,¬AV av A b->H' b=some o->upd H' a (.lst (vs++[v])) b=some o:=λb o n e=>by
       rw [Zs λz=>n (.inr ⟨i,by rw [z];exact hA⟩)];exact e
      exact((q2.same s).append (.cons (RepT.r r) .nil)).ext ex
   · rw [if_neg hz]at e;cases e
theorem VS.frz{t:TS}{φ:Env->Option Out}(i:Nat)(h:VS G ow1 owN owB owC t φ)(hn:G.2 i=none)(h1:sub ow1 ow=true)(h2:ow1.contains i=false)(h3:sub ow (i::ow1)=true):VS G ow owN owB owC t φ:=λH0 av A σ H δ E o e De k=>
 h H0 av _ σ H δ (E.freeze i (Qd h1 h2 h3) hn) o e De k
def Zo(i:Nat)(d:D)(δ:Env):Option Env:=some (δ.set i (some d))
theorem ZR(i:Nat)(hi:ow.contains i=false)(hn:G.2 i=none):VG G ow ow (XG i) (Zo i):=λH0 av A σ H δ E d v r δ' e Q k=>by
 cases e
 exact k _ _ H (Same.refl H) (E.set r (λj=>by
  have:i∉ow:=by simpa using hi
  exact⟨λh=>⟨h,λz=>this (z▸h)⟩,λh=>h.1⟩) hn)
def VGs(G:Cn)(ow ow':List Nat)(g:TGs)(γ:List D->Env->Option Env):Prop:=
 ∀H0 av A σ H δ,ER G ow H0 av A σ H δ->∀ds vs,RepL G.1 (AV av A) H ds vs->∀δ',γ ds δ=some δ'->∀Q:L2.St->Hp->Prop,(∀A' σ' H',Same H H'->(∀b,AV av A' b->AV av A b)->ER G ow' H0 av A' σ' H' δ'->Q σ' H')->g vs σ H Q
def gsNil(ds:List D)(δ:Env):Option Env:=match ds with
 | []=>some δ
 |_=>none
theorem Ub:VGs G ow ow gNil gsNil:=λH0 av A σ H δ E ds vs r δ' e Q k=>by
 cases ds with
 |nil=>cases e;exact⟨r.nil_of,k A σ H (Same.refl H) (λ_ z=>z) E⟩
 |cons _ _=>cases e
def ZG(i:Nat)(γs:List D->Env->Option Env)(ds:List D)(δ:Env):Option Env:=match ds with
 |d::r=>γs r (δ.set i (some d))
 | []=>none
theorem YX{gs:TGs}{γs:List D->Env->Option Env}(i:Nat)(hi:ow.contains i=false)(hn:G.2 i=none)(h:VGs G ow ow gs γs):VGs G ow ow (Zg9 (XG i) gs) (ZG i γs):=λH0 av A σ H δ E ds vs r δ' e Q k=>by
 cases ds with
 |nil=>cases e
 |cons d ds=>
  obtain⟨v,vr,rfl,r1,r2⟩:=r.uncons;refine⟨v,vr,rfl,?_⟩
  have less:∀b,AV av (λj=>if j=i then none else A j) b->AV av A b:=λb z=>by
   rcases z with z|⟨j,z⟩
   · exact .inl z
   · by_cases e:j=i
     · simp [e]at z
     · simp [e]at z;exact .inr ⟨j,z⟩
  have E1:ER G ow H0 av (λj=>if j=i then none else A j) (σ.set i (some v)) H (δ.set i (some d)):=E.set r1 (λj=>by
   have:i∉ow:=by simpa using hi
   exact⟨λh=>⟨h,λz=>this (z▸h)⟩,λh=>h.1⟩) hn
  exact h H0 av _ _ H _ E1 ds vr (r2.av λb z => .inl (less b z)) δ' e Q λA' σ' H' s l E'=>k A' σ' H' s (λb z=>less b (l b z)) E'
def ZS(n:Nat)(γs:List D->Env->Option Env)(d:D)(δ:Env):Option Env:=match d with
 | .tup ds=>if ds.length=n then γs ds δ else none
 |_=>none
theorem Qe{K:PySem.W.Frag}{n:Nat}{gs:TGs}{γs:List D->Env->Option Env}(h:VGs G ow ow gs γs):VG G ow ow (UX K n gs) (ZS n γs):=λH0 av A σ H δ E d v r δ' e Q k=>by
 cases d<;>first|(cases e;done)|skip
 rename_i ds;dsimp only [ZS]at e
 by_cases hz:ds.length=n
 · rw [if_pos hz]at e
   unfold Rep at r;obtain⟨a,vs,rfl,_,rd,l⟩:=r;exact⟨a,vs,rfl,SqT.of rd,by rw [<-l.length];exact hz,h H0 av A σ H δ E ds vs l δ' e Q λA' σ' H' s _ E'=>k A' σ' H' s E'⟩
 · rw [if_neg hz]at e;cases e
def Uc(cA:Kn)(iv:Addr->Prop)(J:It)(xs:List D)(H0:Hp):Prop:=∀H,Same H0 H ->
 (∀i,i<xs.length->J.go i H) /\
 (∀(i:Nat)x v H',xs[i]? = some x->J.yld i H v H'->Same H H'/\∀av':Addr->Prop,(∀b,av' b->H b≠none)->(∀b,av' b->iv b\/H0 b=none)->Rep cA av' H' x v) /\
 (∀i,xs.length<=i->J.stop i H)
def VI(G:Cn)(ow:List Nat)(wi:TI)(ι:Env->Option (List D)):Prop:=
 ∀H0 av A σ H δ,ER G ow H0 av A σ H δ->∀xs,ι δ=some xs->∀R:It->Hp->Prop,(∀J H1,Same H H1->Uc G.1 (AV av A) J xs (DL.cut A H1)->R J H1)->wi σ H R
def ZP(γ:D->Env->Option Env)(φ:Env->Option Out):List D->Env->Option Out
 | [],δ=>some (.nx δ)
 |x::r,δ=>match γ x δ with
  |none=>none
  |some δ1=>match φ δ1 with
   |none=>none
   |some (.nx δ2)=>ZP γ φ r δ2
   |some (.ct δ2)=>ZP γ φ r δ2
   |some (.bk δ2)=>some (.nx δ2)
   |some (.rt d)=>some (.rt d)
def ZB(ι:Env->Option (List D))(γ:D->Env->Option Env)(φ:Env->Option Out)(δ:Env):Option Out:=match ι δ with
 |some xs=>ZP γ φ xs δ
 |none=>none
theorem Yn{wi:TI}{g:TG}{tb:TS}{ι:Env->Option (List D)}{γ:D->Env->Option Env}{φ:Env->Option Out}(hi:VI G ow wi ι)(hg:VG G ow ow g γ)(hb:VS G ow ow ow ow tb φ):VS G ow ow owB owC (JC wi g tb) (ZB ι γ φ):=λH0 av A σ H δ E o e De k=>by
 unfold ZB at e;cases he:ι δ with
 |none=>rw [he]at e;cases e
 |some xs=>
  rw [he]at e;have e:ZP γ φ xs δ=some o:=e;refine hi H0 av A σ H δ E xs he _ λJ H1 s1 W => ?_
  have E1:=E.mono s1;refine⟨λi m σ' H'=>m=xs.length-i/\i<=xs.length/\∃A' δ',ER G ow (DL.cut A H1) av A' σ' H' δ'/\ZP γ φ (xs.drop i) δ'=some o,⟨xs.length,by simp,Nat.zero_le _,A,δ,E1.cut,e⟩,?_⟩
  rintro i m σ' H' ⟨rfl,hle,A',δ',E',e'⟩
  obtain⟨w1,w2,w3⟩:=W H' E'.same
  by_cases hlt:i<xs.length
  · refine .inr ⟨w1 i hlt,λσ2 H2=>∃A2 δ2,ER G ow (DL.cut A H1) av A2 σ2 H2 δ2/\ZP γ φ (xs.drop (i+1)) δ2=some o,λσ2 H2 ⟨A2,δ2,E2,e2⟩=>⟨xs.length-(i+1),by omega,rfl,hlt,A2,δ2,E2,e2⟩,λv H2 y => ?_⟩
    have hx:xs[i]? = some xs[i]:=List.getElem?_eq_getElem hlt;obtain⟨s2,rep⟩:=w2 i _ v H2 hx y;have E2:=E'.mono s2
    have rep':Rep G.1 (AV av A') H2 xs[i] v:=rep _ E'.avl λb z=>by
     rcases z with z|⟨j,z⟩
     · exact .inl (.inl z)
     · exact .inr (E'.fr j b z)
    rw [List.drop_eq_getElem_cons hlt]at e';unfold ZP at e';cases hγ:γ xs[i] δ' with
    |none=>rw [hγ]at e';cases e'
    |some δ1=>
     rw [hγ]at e';dsimp only at e';refine hg _ av A' σ' H2 δ' E2 _ v rep' δ1 hγ _ λA3 σ3 H3 s3 E3 => ?_
     cases hφ:φ δ1 with
     |none=>rw [hφ]at e';cases e'
     |some o1=>
      rw [hφ]at e';refine hb _ av A3 σ3 H3 δ1 E3 o1 hφ _ ?_;cases o1 with
      |nx δ2=>exact λA4 σ4 H4 E4=>⟨A4,δ2,E4,e'⟩
      |ct δ2=>exact λA4 σ4 H4 E4=>⟨A4,δ2,E4,e'⟩
      |bk δ2=>cases e';exact λA4 σ4 H4 E4=>k A4 σ4 H4 (E1.uncut E4)
      |rt d=>cases e';exact λv H4 s4 r4=>k v H4 (E1.sub0.trans s4) r4
  · have ei:i=xs.length:=by omega
    subst ei;rw [List.drop_length]at e';cases e';exact .inl ⟨w3 _ (Nat.le_refl _),k A' σ' H' (E1.uncut E')⟩
def YN(τ:Env->Option Bool)(φ:Env->Option Out):Nat->Env->Option Out
 |0,_=>none
 |n+1,δ=>match τ δ with
  |none=>none
  |some false=>some (.nx δ)
  |some true=>match φ δ with
   |none=>none
   |some (.nx δ2)=>YN τ φ n δ2
   |some (.ct δ2)=>YN τ φ n δ2
   |some (.bk δ2)=>some (.nx δ2)
   |some (.rt d)=>some (.rt d)
theorem Q0{τ:Env->Option Bool}{φ:Env->Option Out}:∀(n k:Nat)(δ:Env)(o:Out),YN τ φ n δ=some o->YN τ φ (n+k) δ=some o
 |0,_,_,_,h=>by cases h
 |n+1,k,δ,o,h=>by
  rw [Nat.add_right_comm];unfold YN at h ⊢;cases ht:τ δ with
  |none=>rw [ht]at h;cases h
  |some b=>
   rw [ht]at h;cases b with
   |false=>exact h
   |true=>
    dsimp only at h ⊢;cases hp:φ δ with
    |none=>rw [hp]at h;cases h
    |some o1=>
     rw [hp]at h;cases o1 with
     |nx δ2=>exact Q0 n k δ2 o h
     |ct δ2=>exact Q0 n k δ2 o h
     |bk δ2=>exact h
     |rt d=>exact h
open Classical in
noncomputable def VU(τ:Env->Option Bool)(φ:Env->Option Out)(δ:Env):Option Out:=if h:∃n o,YN τ φ n δ=some o then YN τ φ (Classical.choose h) δ else none
theorem ZdV{τ:Env->Option Bool}{φ:Env->Option Out}{δ:Env}{n:Nat}{o:Out}(h:YN τ φ n δ=some o):VU τ φ δ=some o:=by
 have hx:∃n o,YN τ φ n δ=some o:=⟨n,o,h⟩
 unfold VU;rw [dif_pos hx];obtain⟨o',ho'⟩:=Classical.choose_spec hx;have h1:=Q0 _ n δ o' ho';have h2:=Q0 _ (Classical.choose hx) δ o h;rw [Nat.add_comm,h2]at h1;rw [ho',h1]
theorem Zbv{τ:Env->Option Bool}{φ:Env->Option Out}{δ:Env}{o:Out}(h:VU τ φ δ=some o):∃n,YN τ φ n δ=some o:=by
 unfold VU at h
 split at h
 · exact⟨_,h⟩
 · cases h
theorem ZeA{c:TT}{tb:TS}{τ:Env->Option Bool}{φ:Env->Option Out}(hc:VT G ow c τ)(hb:VS G ow ow ow ow tb φ):VS G ow ow owB owC (Zfe c tb) (VU τ φ):=λH0 av A σ H δ E o e De k=>by
 obtain⟨n,e⟩:=Zbv e;refine⟨λm σ' H'=>∃A' δ',ER G ow H0 av A' σ' H' δ'/\YN τ φ m δ'=some o,⟨n,A,δ,E,e⟩,?_⟩
 rintro m σ' H' ⟨A',δ',E',e'⟩
 cases m with
 |zero=>cases e'
 |succ m=>
  unfold YN at e';cases ht:τ δ' with
  |none=>rw [ht]at e';cases e'
  |some b=>
   rw [ht]at e';refine hc H0 av A' σ' H' δ' E' b ht _ λH2 s2 => ?_
   have E2:=E'.mono s2;cases b with
   |false=>cases e';exact V5 (k A' σ' H2 E2)
   |true=>
    dsimp only at e';refine V6 ⟨λσ3 H3=>∃A3 δ3,ER G ow H0 av A3 σ3 H3 δ3/\YN τ φ m δ3=some o,λσ3 H3 ⟨A3,δ3,E3,e3⟩=>⟨m,Nat.lt_succ_self _,A3,δ3,E3,e3⟩,?_⟩;cases hφ:φ δ' with
    |none=>rw [hφ]at e';cases e'
    |some o1=>
     rw [hφ]at e';refine hb H0 av A' σ' H2 δ' E2 o1 hφ _ ?_;cases o1 with
     |nx δ2=>exact λA4 σ4 H4 E4=>⟨A4,δ2,E4,e'⟩
     |ct δ2=>exact λA4 σ4 H4 E4=>⟨A4,δ2,E4,e'⟩
     |bk δ2=>cases e';exact k
     |rt d=>cases e';exact k
end
end DL
namespace DL
open PySem PySem.Spec L2
section
variable{cA:Kn}{G:Cn}{ow owN owB owC:List Nat}
def ZJ(ε:Env->Option D)(δ:Env):Option (List D):=match ε δ with
 |some (.lst xs)=>some xs
 |some (.tup xs)=>some xs
 |some (.str cs)=>some (cs.map λc => .str [c])
 |_=>none
theorem Rep.cut{av:Addr->Prop}{A:Nat->Option Addr}{H:Hp}{d:D}{v:V}(h:Rep cA (AV av A) H d v):Rep cA (AV av A) (DL.cut A H) d v:=h.ext λb o n e=>by
 rw [Vn λ⟨i,z⟩=>n (.inr ⟨i,z⟩)];exact e
theorem RepL.cut{av:Addr->Prop}{A:Nat->Option Addr}{H:Hp}{d:List D}{v:List V}(h:RepL cA (AV av A) H d v):RepL cA (AV av A) (DL.cut A H) d v:=h.ext λb o n e=>by
 rw [Vn λ⟨i,z⟩=>n (.inr ⟨i,z⟩)];exact e
theorem Zci{iv:Addr->Prop}{H0:Hp}{a:Addr}{vs:List V}{xs:List D}(rd:SqL cA.K H0 a vs)(l:RepL cA iv H0 xs vs):Uc cA iv (Itl cA.K a) xs H0:=λH s=>by
 have rd':SqL cA.K H a vs:=s.seq rd;refine⟨λi hi => ?_,λi x v H' hx y => ?_,λi hi=>⟨vs,rd',by rw [<-l.length];exact hi⟩⟩
 · obtain⟨v,hv,_⟩:=l.get (List.getElem?_eq_getElem hi)
   exact⟨vs,v,rd',hv⟩
 · obtain⟨rfl,hy⟩:=y
   obtain⟨v',hv,r⟩:=l.get hx;rw [hy vs rd']at hv;cases hv;exact⟨Same.refl _,λav' _ h2=>(r.av h2).same s⟩
theorem ZdW{K:PySem.W.Frag}{iv:Addr->Prop}{H0:Hp}{a:Addr}{vs:List V}{xs:List D}(rd:H0 a=some (.tup vs))(l:RepL cA iv H0 xs vs):Uc cA iv (Itt K a) xs H0:=λH s=>by
 have rd':SqT K H a vs:=SqT.of (s _ _ rd);refine⟨λi hi => ?_,λi x v H' hx y => ?_,λi hi=>⟨vs,rd',by rw [<-l.length];exact hi⟩⟩
 · obtain⟨v,hv,_⟩:=l.get (List.getElem?_eq_getElem hi)
   exact⟨vs,v,rd',hv⟩
 · obtain⟨rfl,hy⟩:=y
   obtain⟨v',hv,r⟩:=l.get hx;rw [hy vs rd']at hv;cases hv;exact⟨Same.refl _,λav' _ h2=>(r.av h2).same s⟩
theorem ZdX{iv:Addr->Prop}{H0:Hp}{cs:List Nat}:Uc cA iv (Its cs) (cs.map λc => .str [c]) H0:=λH s=>by
 refine⟨λi hi=>(show i<cs.length by simpa using hi),λi x v H' hx y => ?_,λi hi=>(show cs.length<=i by simpa using hi)⟩;obtain⟨rfl,c,hc,rfl⟩:=y;rw [List.getElem?_map,hc]at hx;cases hx;exact⟨Same.refl _,λ_ _ _=>rfl⟩
theorem YO{tl:TE}{ε:Env->Option D}(h:VE G ow tl .cl ε):VI G ow (JW G.1.K tl) (ZJ ε):=λH0 av A σ H δ E xs e R k=>by
 unfold ZJ at e;cases he:ε δ with
 |none=>rw [he]at e;cases e
 |some d=>
  rw [he]at e;refine h H0 av A σ H δ E d he _ λv H1 s r => ?_
  cases d<;>first|(cases e;done)|skip
  · cases e
    exact .inr (.inr ⟨_,r,k _ H1 s ZdX⟩)
  · cases e
    obtain⟨a,vs,rfl,na,rd,l⟩:=r;exact .inl ⟨a,vs,rfl,rd,k _ H1 s (Zci (Zfl na rd λb o n e=>by rw [Vn λ⟨i,z⟩=>n (.inr ⟨i,z⟩)];exact e) l.cut)⟩
  · cases e
    obtain⟨a,vs,rfl,na,rd,l⟩:=r;exact .inr (.inl ⟨a,vs,rfl,SqT.of rd,k _ H1 s (ZdW (by rw [Vn λ⟨i,z⟩=>na (.inr ⟨i,z⟩)];exact rd) l.cut)⟩)
def Yr(lo c:Int)(n:Nat):List D:=(List.range n).map λk => .int (lo+(k:Nat)*c)
theorem ZaZ{iv:Addr->Prop}{H0:Hp}{lo:Int}{n:Nat}:Uc cA iv (Itr lo n) (Yr lo 1 n) H0:=λH s=>by
 refine⟨λi hi=>(show i<n by simpa [Yr]using hi),λi x v H' hx y => ?_,λi hi=>(show n<=i by simpa [Yr]using hi)⟩;obtain⟨rfl,rfl⟩:=y;have hi:i<n:=by have:=(List.getElem?_eq_some_iff.mp hx).1;simpa [Yr]using this
 have:x = .int (lo+i):=by
  unfold Yr at hx;rw [List.getElem?_map,List.getElem?_range hi]at hx;have:=Option.some.inj hx;rw [<-this];show D.int (lo+(i:Int)*1)=_;rw [Int.mul_one]
 subst this;exact⟨Same.refl _,λ_ _ _=>rfl⟩
theorem Zcj{iv:Addr->Prop}{H0:Hp}{lo c:Int}{n:Nat}:Uc cA iv (J4 lo c n) (Yr lo c n) H0:=λH s=>by
 refine⟨λi hi=>(show i<n by simpa [Yr]using hi),λi x v H' hx y => ?_,λi hi=>(show n<=i by simpa [Yr]using hi)⟩;obtain⟨rfl,rfl⟩:=y;have hi:i<n:=by have:=(List.getElem?_eq_some_iff.mp hx).1;simpa [Yr]using this
 have:x = .int (lo+i*c):=by
  unfold Yr at hx;rw [List.getElem?_map,List.getElem?_range hi]at hx;exact(Option.some.inj hx).symm
 subst this;exact⟨Same.refl _,λ_ _ _=>rfl⟩
def ZH(α:Env->Option (List D))(δ:Env):Option (List D):=match α δ with
 |some [.int j]=>if -(2 ^ 62)<=j/\j<2 ^ 62 then some (Yr 0 1 j.toNat)else none
 |some [.int i,.int j]=>if -(2 ^ 62)<=i/\i<2 ^ 62 /\ -(2 ^ 62)<=j/\j<2 ^ 62 then some (Yr i 1 (j-i).toNat)else none
 |some [.int i,.int j,.int c]=>if c≠0/\c.natAbs<1073741824/\Builtin.Range.small i j c=true then some (Yr i c (Builtin.Range.rangeSize i j c).toNat)else none
 |_=>none
theorem ql1{av:Addr->Prop}{A:Nat->Option Addr}{H:Hp}{q:Ql}{x:Int}{vs:List V}(h:RepQL cA av A H q [.int x] vs):vs=[.int x]:=by
 obtain⟨v,r,rfl,h1,h2⟩:=h;have:=h1.any;cases(show v=_ from this);cases(show r=[]from h2);rfl
theorem ql2{av:Addr->Prop}{A:Nat->Option Addr}{H:Hp}{q:Ql}{x y:Int}{vs:List V}(h:RepQL cA av A H q [.int x,.int y] vs):vs=[.int x,.int y]:=by
 obtain⟨v,r,rfl,h1,h2⟩:=h;have:=h1.any;cases(show v=_ from this);rw [ql1 h2]
theorem ql3{av:Addr->Prop}{A:Nat->Option Addr}{H:Hp}{q:Ql}{x y z:Int}{vs:List V}(h:RepQL cA av A H q [.int x,.int y,.int z] vs):vs=[.int x,.int y,.int z]:=by
 obtain⟨v,r,rfl,h1,h2⟩:=h;have:=h1.any;cases(show v=_ from this);rw [ql2 h2]
theorem Xb{ta:TA}{q:Ql}{a:Env->Option (List D)}(h:VA G ow ta q a)(hl:∀δ ds,a δ=some ds->ds.length=1):VI G ow (Zha ta) (ZH a):=λH0 av A σ H δ E xs e R k=>by
 unfold ZH at e;cases he:a δ with
 |none=>rw [he]at e;cases e
 |some ds=>
  rw [he]at e;refine h H0 av A σ H δ E ds he _ λvs H1 s r => ?_
  have hln:=hl δ ds he
  split at e
  · rename_i j he2
    cases he2
    by_cases hz : -(2 ^ 62)<=j/\j<2 ^ 62
    · rw [if_pos hz]at e
      cases e;exact⟨j,ql1 r,hz.1,hz.2,k _ H1 s ZaZ⟩
    · rw [if_neg hz]at e;cases e
  · rename_i he2;cases he2;simp at hln
  · rename_i he2;cases he2;simp at hln
  · cases e
theorem Zgc{ta:TA}{q:Ql}{a:Env->Option (List D)}(h:VA G ow ta q a)(hl:∀δ ds,a δ=some ds->ds.length=2):VI G ow (Zhb ta) (ZH a):=λH0 av A σ H δ E xs e R k=>by
 unfold ZH at e;cases he:a δ with
 |none=>rw [he]at e;cases e
 |some ds=>
  rw [he]at e;refine h H0 av A σ H δ E ds he _ λvs H1 s r => ?_
  have hln:=hl δ ds he
  split at e
  · rename_i he2;cases he2;simp at hln
  · rename_i i j he2
    cases he2
    by_cases hz : -(2 ^ 62)<=i/\i<2 ^ 62 /\ -(2 ^ 62)<=j/\j<2 ^ 62
    · rw [if_pos hz]at e
      cases e;exact⟨i,j,ql2 r,hz,k _ H1 s ZaZ⟩
    · rw [if_neg hz]at e;cases e
  · rename_i he2;cases he2;simp at hln
  · cases e
theorem Zgd{ta:TA}{q:Ql}{a:Env->Option (List D)}(h:VA G ow ta q a)(hl:∀δ ds,a δ=some ds->ds.length=3):VI G ow (Zhi ta) (ZH a):=λH0 av A σ H δ E xs e R k=>by
 unfold ZH at e;cases he:a δ with
 |none=>rw [he]at e;cases e
 |some ds=>
  rw [he]at e;refine h H0 av A σ H δ E ds he _ λvs H1 s r => ?_
  have hln:=hl δ ds he
  split at e
  · rename_i he2;cases he2;simp at hln
  · rename_i he2;cases he2;simp at hln
  · rename_i i j c he2
    cases he2
    by_cases hz:c≠0/\c.natAbs<1073741824/\Builtin.Range.small i j c=true
    · rw [if_pos hz]at e
      cases e;exact⟨i,j,c,ql3 r,hz,k _ H1 s Zcj⟩
    · rw [if_neg hz]at e;cases e
  · cases e
theorem Zge{δ:Env}{ds:List D}(h:eNil δ=some ds):ds.length=0:=by cases h;rfl
theorem ZaD{a:Env->Option D}{r:Env->Option (List D)}{n:Nat}(hr:∀δ ds,r δ=some ds->ds.length=n):∀δ ds,Zb a r δ=some ds->ds.length=n+1:=λδ ds h=>by
 unfold Zb at h;cases ha:a δ with
 |none=>rw [ha]at h;cases h
 |some x=>
  rw [ha]at h;cases hr':r δ with
  |none=>rw [hr']at h;cases h
  |some xs=>rw [hr']at h;cases h;rw [List.length_cons,hr δ xs hr']
theorem Y5{a:Env->Option D}:∀δ ds,Zb a eNil δ=some ds->ds.length=1:=ZaD λ_ _=>Zge
theorem ZkB{a b:Env->Option D}:∀δ ds,Zb a (Zb b eNil) δ=some ds->ds.length=2:=ZaD Y5
theorem ZkS{a b c:Env->Option D}:∀δ ds,Zb a (Zb b (Zb c eNil)) δ=some ds->ds.length=3:=ZaD ZkB
def YY(n:Nat)(δ:Env)(js:List Nat):Env:=List.replicate n none++js.map λj=>(δ[j]?).getD none
def ZZ(γ:D->Env->Option Env)(τ:Env->Option Bool)(ε:Env->Option D)(δ0:Env):List D->Option (List D)
 | []=>some []
 |x::r=>match γ x δ0 with
  |none=>none
  |some δ1=>match τ δ1 with
   |none=>none
   |some false=>ZZ γ τ ε δ0 r
   |some true=>match ε δ1 with
    |none=>none
    |some y=>match ZZ γ τ ε δ0 r with
     |none=>none
     |some ys=>some (y::ys)
def ZT(ι:Env->Option (List D))(γ:D->Env->Option Env)(τ:Env->Option Bool)(ε:Env->Option D)(n:Nat)(js:List Nat)(δ:Env):Option D:=match ι δ with
 |none=>none
 |some xs=>match ZZ γ τ ε (YY n δ js) xs with
  |none=>none
  |some ys=>if ys.length<=sizeLine then some (.lst ys)else none
theorem ER.blk{H0 H:Hp}{av:Addr->Prop}{A:Nat->Option Addr}{σ:L2.St}{δ:Env}(n:Nat)(js:List Nat)(hjs:js.all (λj => !ow.contains j)=true)(E:ER G ow H0 av A σ H δ) :
 ER ⟨G.1,λ_=>none⟩ [] H (AV av A) (λ_=>none) (L2.blk n σ js) H (YY n δ js):=by
 refine⟨Same.refl H,E.avl,λ_ _ z=>(by cases z),λ_ _ _ z=>(by cases z),λ_ _ z=>(by cases z),λ_ z=>absurd rfl z,λ_ z=>(by cases z),?_,λ_ _ z=>(by cases z),λ_ _ z=>(by cases z),λi d e => ?_⟩
 · unfold L2.blk YY U4
   rw [List.length_append,List.length_append,List.length_replicate,List.length_replicate,List.length_map,List.length_map]
 · unfold YY at e
   by_cases hi:i<n
   · rw [List.getElem?_append_left (by simpa using hi),List.getElem?_replicate,if_pos hi]at e
     cases e
   · rw [List.getElem?_append_right (by simpa using hi),List.length_replicate,List.getElem?_map]at e
     cases hj:js[i-n]? with
     |none=>rw [hj]at e;cases e
     |some j=>
      rw [hj]at e;have e':(δ[j]?).getD none=some d:=Option.some.inj e
      have e2:δ[j]? = some (some d):=by
       cases q:δ[j]? with
       |none=>rw [q]at e';cases e'
       |some z=>rw [q]at e';exact congrArg some e'
      obtain⟨v,h1,h2,_⟩:=E.var j d e2
      have hjo:A j=none:=by
       cases q:A j with
       |none=>rfl
       |some a=>
        have h3:=E.dom j (by rw [q];exact λz=>by cases z);have h4:=List.all_eq_true.mp hjs j (List.mem_of_getElem? hj);simp at h4;exact absurd h3 h4
      refine⟨v,?_,λ_=>(h2 hjo).av λb z => ?_,λ_ z=>(by cases z)⟩
      · unfold L2.blk U4
        rw [List.getElem?_append_right (by simpa using hi),List.length_replicate,List.getElem?_map,hj];show some ((σ[j]?).getD none)=_;rw [h1];rfl
      · rcases z with z|⟨_,z⟩
        · exact .inl z
        · cases z
theorem XR {wi:TI} {g:TG} {tt:TT} {te:TE} {n:Nat} {js:List Nat} {ι:Env->Option (List D)} {γ:D->Env->Option Env} {τ:Env->Option Bool} {ε:Env->Option D}
 (hjs:js.all (λj => !ow.contains j)=true) (hi:VI G ow wi ι) (hg:VG ⟨G.1,λ_=>none⟩ [] [] g γ) (ht:VT ⟨G.1,λ_=>none⟩ [] tt τ) (he:VE ⟨G.1,λ_=>none⟩ [] te .cl ε):VF G ow (QP wi g tt te n js) (ZT ι γ τ ε n js):=λH0 av A σ H δ E d e Q k=>by
 unfold ZT at e;cases hι:ι δ with
 |none=>rw [hι]at e;cases e
 |some xs=>
  rw [hι]at e;dsimp only at e;cases hc:ZZ γ τ ε (YY n δ js) xs with
  |none=>rw [hc]at e;cases e
  |some full=>
   rw [hc]at e;dsimp only at e
   by_cases hz:full.length<=sizeLine
   · rw [if_pos hz]at e
     have ed:D.lst full=d:=Option.some.inj e;refine hi H0 av A σ H δ E xs hι _ λJ H1 s1 W => ?_
     have E1:=E.mono s1
     refine⟨λi m ys H'=>m=xs.length-i/\i<=xs.length/\Same H1 H'/\∃done rest,RepL G.1 (AV av A) H' done ys/\ZZ γ τ ε (YY n δ js) (xs.drop i)=some rest/\done++rest=full,
      ⟨xs.length,by simp,Nat.zero_le _,Same.refl _,[],full,.nil,hc,rfl⟩,?_⟩
     rintro i m ys H' ⟨rfl,hle,s',done,rest,rl,hr,hf⟩
     have E':=E1.mono s';have sc:Same (DL.cut A H1) H':=λb o z=>s' b o (ZbJ z).1
     obtain⟨w1,w2,w3⟩:=W H' sc
     by_cases hlt:i<xs.length
     · refine .inr ⟨w1 i hlt,λv H2 y => ?_⟩
       have hx:xs[i]? = some xs[i]:=List.getElem?_eq_getElem hlt;obtain⟨s2,rep⟩:=w2 i _ v H2 hx y;have rep':Rep G.1 (AV av A) H2 xs[i] v:=rep _ E'.avl λb z => .inl z
       have E2:=E'.mono s2;have EB:ER ⟨G.1,λ_=>none⟩ [] H2 (AV av A) (λ_=>none) (L2.blk n σ js) H2 (YY n δ js):=E2.blk n js hjs
       have triv:∀(A':Nat->Option Addr){σ':L2.St}{H3:Hp}{δ':Env},ER ⟨G.1,λ_=>none⟩ [] H2 (AV av A) A' σ' H3 δ'->∀b,AV (AV av A) A' b ↔ AV av A b:=λA' {σ' H3 δ'} E3 b=>by
        constructor
        · rintro(z|⟨j,z⟩)
          · exact z
          · have:=E3.dom j (by rw [z];exact λz=>by cases z)
            cases this
        · exact λz => .inl z
       rw [List.drop_eq_getElem_cons hlt]at hr;unfold ZZ at hr;cases hγ:γ xs[i] (YY n δ js)with
       |none=>rw [hγ]at hr;cases hr
       |some δ1=>
        rw [hγ]at hr;dsimp only at hr;refine hg _ _ _ _ H2 _ EB _ v (rep'.av λb z => .inl ((triv _ EB b).mp z)) δ1 hγ _ λA3 σ3 H3 s3 E3 => ?_
        cases hτ:τ δ1 with
        |none=>rw [hτ]at hr;cases hr
        |some c=>
         rw [hτ]at hr;refine ht _ _ A3 σ3 H3 δ1 E3 c hτ _ λH4 s4 => ?_
         have E4:=E3.mono s4;cases c with
         |false=>
          exact V5 ⟨xs.length-(i+1),by omega,rfl,hlt,(s'.trans s2).trans (s3.trans s4),done,rest,rl.same ((s2.trans s3).trans s4),hr,hf⟩
         |true=>
          dsimp only at hr;cases hε:ε δ1 with
          |none=>rw [hε]at hr;cases hr
          |some yd=>
           rw [hε]at hr;dsimp only at hr;cases hr':ZZ γ τ ε (YY n δ js) (xs.drop (i+1))with
           |none=>rw [hr']at hr;cases hr
           |some rest'=>
            rw [hr']at hr;have hrr:yd::rest'=rest:=Option.some.inj hr;subst hrr;refine V6 (he _ _ A3 σ3 H4 δ1 E4 yd hε _ λvy H5 s5 r5 => ?_);have sall:Same H' H5:=((s2.trans s3).trans s4).trans s5;refine⟨?_,xs.length-(i+1),by omega,rfl,hlt,s'.trans sall,done++[yd],rest',(rl.same sall).append (.cons ((RepT.r r5).av λb z => .inl ((triv _ E4 b).mpr z)) .nil),hr',by rw [<-hf];simp⟩
            have:=congrArg List.length hf;rw [List.length_append,List.length_cons]at this;have:=rl.length;omega
     · have ei:i=xs.length:=by omega
       subst ei;rw [List.drop_length]at hr;cases hr;refine .inl ⟨w3 _ (Nat.le_refl _),λp hp=>k p ys full H' (s1.trans s') hp (by rw [<-hf,List.append_nil];exact rl) ed.symm⟩
   · rw [if_neg hz]at e;cases e
def spD(cA:Kn)(n:Nat)(m:List D->Option D):Sp:=λvs H Q _=>∃av ds d,(∀a,av a->H a≠none)/\RepL cA av H ds vs/\ds.length=n/\m ds=some d/\∀v H',Same H H'->Rep cA av H' d v->Q v H'
def Zy(n:Nat)(m:List D->Option D)(dds:List D)(α:Env->Option (List D))(δ:Env):Option D:=match α δ with
 |some ds=>if(ds++dds).length=n then m (ds++dds)else none
 |none=>none
def Ql.cq:Ql->Ql
 | .cl => .cl
 |_ => .dt
theorem Z5{n:Nat}{m:List D->Option D}{t:TA}{q:Ql}{α:Env->Option (List D)}{E0:XK}(dds:List D)(hd:dds.all Zx=true)(h:VA G ow t q α):VE G ow (Zhd (spD G.1 n m) (dds.map val) E0 t) q.cq (Zy n m dds α):=λH0 av A σ H δ E d e Q k=>by
 unfold Zy at e;cases he:α δ with
 |none=>rw [he]at e;cases e
 |some ds=>
  rw [he]at e;dsimp only at e
  by_cases hz:(ds++dds).length=n
  · rw [if_pos hz]at e
    refine h H0 av A σ H δ E ds he _ λvs H1 s1 r1 => ?_
    have E1:=E.mono s1;cases q with
    |cl=>exact⟨AV av A,ds++dds,d,E1.avl,r1.cl.append (.of_vals hd),hz,e,λv H' s r=>k v H' (s1.trans s) r.t⟩
    |tp=>exact⟨av,ds++dds,d,E1.avH,r1.any.append (.of_vals hd),hz,e,λv H' s r=>k v H' (s1.trans s) r.t⟩
    |dt=>exact⟨av,ds++dds,d,E1.avH,r1.any.append (.of_vals hd),hz,e,λv H' s r=>k v H' (s1.trans s) r.t⟩
  · rw [if_neg hz]at e;cases e
def run(N:Nat)(φ:Env->Option Out)(ds:List D):Option D:=match φ (ds.map some++List.replicate (N-ds.length) none)with
 |some (.rt d)=>some d
 |some (.nx _)=>some .non
 |_=>none
theorem ZdY{N:List Str}{ds:List D}{vs:List V}{av:Addr->Prop}{H:Hp}(r:RepL cA av H ds vs){i:Nat}{d:D}(h:(ds.map some++List.replicate (N.length-ds.length) none)[i]? = some (some d)) :
 ∃v,(L2.start N vs)[i]? = some (some v)/\Rep cA av H d v:=by
 by_cases hi:i<ds.length
 · rw [List.getElem?_append_left (by simpa using hi),List.getElem?_map]at h
   cases hd:ds[i]? with
   |none=>rw [hd]at h;cases h
   |some x=>
    rw [hd]at h;cases h;obtain⟨v,hv,rv⟩:=r.get hd;refine⟨v,?_,rv⟩;unfold L2.start;have:i<vs.length:=by rw [<-r.length];exact hi
    rw [List.getElem?_append_left (by simpa using this),List.getElem?_map,hv];rfl
 · rw [List.getElem?_append_right (by simpa using hi),List.getElem?_replicate]at h
   split at h<;>cases h
theorem ZeB{N:List Str}{ds:List D}{vs:List V}{av:Addr->Prop}{H:Hp}(ha:∀a,av a->H a≠none)(r:RepL cA av H ds vs) :
 ER ⟨cA,λ_=>none⟩ [] H av (λ_=>none) (L2.start N vs) H (ds.map some++List.replicate (N.length-ds.length) none):=by
 refine⟨Same.refl H,ha,λ_ _ z=>(by cases z),λ_ _ _ z=>(by cases z),λ_ _ z=>(by cases z),λ_ z=>absurd rfl z,λ_ z=>(by cases z),?_,λ_ _ z=>(by cases z),λ_ _ z=>(by cases z),λi d e => ?_⟩
 · unfold L2.start
   rw [List.length_append,List.length_append,List.length_map,List.length_map,List.length_replicate,List.length_replicate,r.length]
 · obtain⟨v,h1,h2⟩:=ZdY r e
   refine⟨v,h1,λ_=>h2.av λb z => ?_,λ_ z=>(by cases z)⟩;rcases z with z|⟨_,z⟩
   · exact .inl z
   · cases z
section
variable{P:Program}{w:World}{K:PySem.W.Frag}{mg:Str->Option Value}{base:Heap}
end
theorem Zc2{vs:List V}{lo hi:Option Int}:VQ vs lo hi=cutL vs lo hi:=by
 unfold VQ cutL;have e:∀n d o,HT.sIx n d o=Z3 n d o:=λn d o=>by cases o<;>rfl
 rw [e,e]
theorem RepL.cutL{av:Addr->Prop}{H:Hp}{xs:List D}{vs:List V}(l:RepL cA av H xs vs)(lo hi:Option Int):RepL cA av H (L2.cutL xs lo hi) (L2.cutL vs lo hi):=by
 unfold L2.cutL;rw [l.length];exact(l.drop _).take _
def xNoP(_:Env):Option (Option Int):=some none
def xP(ε:Env->Option D)(δ:Env):Option (Option Int):=match ε δ with
 |some (.int i)=>some (some i)
 |_=>none
def VO(G:Cn)(ow:List Nat)(to:TO)(ω:Env->Option (Option Int)):Prop:=
 ∀H0 av A σ H δ,ER G ow H0 av A σ H δ->∀x,ω δ=some x->∀Q:Option Int->Hp->Prop,(∀H',Same H H'->Q x H')->to σ H Q
theorem Zc3:VO G ow tNoPart xNoP:=λH0 av A σ H δ E x e Q k=>by
 cases e;exact k H (Same.refl H)
theorem VW{te:TE}{q:Ql}{ε:Env->Option D}(h:VE G ow te q ε):VO G ow (Zhg te) (xP ε):=λH0 av A σ H δ E x e Q k=>by
 unfold xP at e;cases he:ε δ with
 |none=>rw [he]at e;cases e
 |some d=>
  rw [he]at e;cases d<;>first|(cases e;done)|skip
  cases e;exact h H0 av A σ H δ E _ he _ λv H' s r=>⟨_,r.any,k H' s⟩
def slD:D->Option Int->Option Int->Option D
 | .str a,lo,hi=>if a.length<=sizeLine then some (.str (L2.cutL a lo hi))else none
 | .lst xs,lo,hi=>some (.lst (L2.cutL xs lo hi))
 | .tup xs,lo,hi=>if Z3 xs.length 0 lo=0/\Z3 xs.length xs.length hi=xs.length then none else some (.tup (L2.cutL xs lo hi))
 |_,_,_=>none
def eSl(a:Env->Option D)(lo hi:Env->Option (Option Int))(δ:Env):Option D:=match a δ with
 |some x=>match lo δ with
  |some l=>match hi δ with
   |some u=>slD x l u
   |none=>none
  |none=>none
 |none=>none
theorem ZeC{a:Env->Option D}{lo hi:Env->Option (Option Int)}{δ:Env}{d:D}(h:eSl a lo hi δ=some d):∃x l u,a δ=some x/\lo δ=some l/\hi δ=some u/\slD x l u=some d:=by
 unfold eSl at h;cases ea:a δ with
 |none=>rw [ea]at h;cases h
 |some x=>
  rw [ea]at h;cases el:lo δ with
  |none=>rw [el]at h;cases h
  |some l=>
   rw [el]at h;cases eu:hi δ with
   |none=>rw [eu]at h;cases h
   |some u=>rw [eu]at h;exact⟨x,l,u,rfl,rfl,rfl,h⟩
theorem Qf{ta:TE}{tl th:TO}{q:Ql}{a:Env->Option D}{lo hi:Env->Option (Option Int)}(hq:q = .cl\/q = .tp)(ha:VE G ow ta q a)(hl:VO G ow tl lo)(hh:VO G ow th hi):VE G ow (tSl (JY G.1.K) ta tl th) .cl (eSl a lo hi):=λH0 av A σ H δ E d e Q k=>by
 obtain⟨x,l,u,ex,el,eu,ed⟩:=ZeC e;refine ha H0 av A σ H δ E x ex _ λv H1 s1 r1=>hl H0 av A σ H1 δ (E.mono s1) l el _ λH2 s2=>hh H0 av A σ H2 δ ((E.mono s1).mono s2) u eu _ λH3 s3 => ?_
 have s13:=s2.trans s3;have E3:=(E.mono s1).mono s13
 have r3:RepT G.1 av (AV av A) H3 x v:=by
  have:=(r1.same s13).tp;rcases hq with rfl|rfl<;>exact this
 cases x<;>first|(cases ed;done)|skip
 · rename_i cs
   cases(show v=_ from r3);dsimp only [slD]at ed
   by_cases hz:cs.length<=sizeLine
   · rw [if_pos hz]at ed
     cases ed;exact .inl ⟨cs,rfl,hz,k _ H3 (s1.trans s13) rfl⟩
   · rw [if_neg hz]at ed;cases ed
 · cases ed
   obtain⟨p,vs,rfl,_,rd,ll⟩:=r3;refine .inr (.inl ⟨p,vs,rfl,rd,λp' hp => ?_⟩);rw [Zc2];exact k _ _ ((s1.trans s13).trans (Yb hp)) ⟨p',_,rfl,λz=>(E3.avl p' z hp).elim,SqL.of ZL,(ll.cutL l u).same (Yb hp)⟩
 · rename_i xs
   dsimp only [slD]at ed
   by_cases hz:Z3 xs.length 0 l=0/\Z3 xs.length xs.length u=xs.length
   · rw [if_pos hz]at ed;cases ed
   · rw [if_neg hz]at ed
     cases ed;obtain⟨p,vs,rfl,_,rd,ll⟩:=r3;refine .inr (.inr ⟨p,vs,rfl,SqT.of rd,?_,λp' hp => ?_⟩)
     · have e:∀n d o,HT.sIx n d o=Z3 n d o:=λn d o=>by cases o<;>rfl
       rw [e,e,<-ll.length];exact hz
     · rw [Zc2]
       exact k _ _ ((s1.trans s13).trans (Yb hp)) ⟨p',_,rfl,λz=>E3.avl p' z hp,ZL,(ll.cutL l u).same (Yb hp)⟩
def ZfR(K:PySem.W.Frag):List V->Hp->VK->Prop:=λxs H Q=>ZkR K xs H Q\/∃p vs c cv b,xs=[.ref p,c]/\(∀v,RelV c v->v=cv)/\KL K p vs/\kitOne K (.type "list") cv=some b/\Q (.bl b) H
theorem Zcz{X:Cx}{K:PySem.W.Frag}(hK:X.K=K:=by rfl):YG X (.builtin "isinstance") (ZfR K):=by
 subst hK;intro pins s σ H xs us Q I rs h;rcases h with h|⟨p,vs,c,cv,b,rfl,hc,⟨o,its,n,hk,h1,_⟩,e,q⟩
 · exact Zeu pins s σ H xs us Q I rs h
 · obtain⟨u,w',rfl,rx,rc⟩:=JF rs
   have ec:=hc _ rc;subst ec;cases(show u=Value.ref p from rx);exact PySem.W.kia_one PySem.W.kitx_list I.kIn ⟨o,I.kIn p o hk,h1⟩ e (λz=>nomatch z) λtk=>⟨.bl b,H,I.tok tk,rfl,q⟩
def kind:D->String
 | .non => "NoneType"
 | .bl _ => "bool"
 | .int _ => "int"
 | .str _ => "str"
 | .lst _ => "list"
 | .tup _ => "tuple"
 | .obj c _ _=>c
 | .dct _ _ => "dict"
 | .dtt _ _ => "dict"
def plainKinds:List String:=["NoneType", "bool", "int", "str", "list", "tuple"]
def UJ(tab:List (String×Bool)):D->Option Bool
 | .obj c _ _=>if plainKinds.contains c then none else tab.lookup c
 | .dct _ _=>none
 | .dtt _ _=>none
 |d=>tab.lookup (kind d)
def Xz(tab:List (String×Bool))(a:Env->Option D)(δ:Env):Option D:=match a δ with
 |some d=>match UJ tab d with
  |some b=>some (.bl b)
  |none=>none
 |none=>none
structure ClsI(K:PySem.W.Frag)(C:Addr):Prop where
 cl:Cls K C
 ha:PySem.W.findIn K (.ref C) "__class__" = some (some (.builtin "object.__class__"))
 hn:PySem.W.specialIn K (.builtin "object.__class__") "__get__" = some (some (.builtin "getset_descriptor.__get__"))
 htk:PySem.W.takesIn K (.builtin "object.__class__")=some true
 hm:PySem.W.mroIn K C (.type "object")=some true
structure IsiOk(K:PySem.W.Frag)(cA:Kn)(cv:Value)(tab:List (String×Bool)):Prop where
 plain:∀k∈plainKinds,∀b,tab.lookup k=some b->kitOne K (.type k) cv=some b
 own:∀(c:String)b,plainKinds.contains c=false->tab.lookup c=some b->kitOne K (.ref (cA.c c)) cv=some b/\ClsI K (cA.c c)
theorem ZaE{β:Type}{c:String}{b:β}:∀{tab:List (String×β)},tab.lookup c=some b->(c,b)∈tab
 | [],h=>by simp at h
 |(c',b')::r,h=>by
  rw [List.lookup_cons]at h;cases hc:c == c' with
  |true=>
   rw [hc]at h;cases h;rw [eq_of_beq hc];exact List.mem_cons_self
  |false=>
   rw [hc]at h;exact List.mem_cons_of_mem _ (ZaE h)
theorem Zbe{K:PySem.W.Frag}{cA:Kn}{cv:Value}{tab:List (String×Bool)}(h:∀p∈tab,if plainKinds.contains p.1=true then kitOne K (.type p.1) cv=some p.2 else kitOne K (.ref (cA.c p.1)) cv=some p.2/\ClsI K (cA.c p.1)):IsiOk K cA cv tab where
 plain:=λk hk b hl=>by
  have:=h _ (ZaE hl)
  rwa [if_pos (by simpa using hk)]at this
 own:=λc b hc hl=>by
  have:=h _ (ZaE hl)
  rwa [if_neg (by simpa using hc)]at this
theorem ZcA{ta:TE}{q:Ql}{a:Env->Option D}{c:V}{cv:Value}{tab:List (String×Bool)}(hc:∀v,RelV c v->v=cv)(I:IsiOk G.1.K G.1 cv tab)(ha:VE G ow ta q a) :
 VE G ow (tCB (ZfR G.1.K) (VN ta (VN (tC c) tNil))) .cl (Xz tab a):=λH0 av A σ H δ E d e Q k=>by
 unfold Xz at e;cases he:a δ with
 |none=>rw [he]at e;cases e
 |some x=>
  rw [he]at e;dsimp only at e;cases ht:UJ tab x with
  |none=>rw [ht]at e;cases e
  |some b=>
   rw [ht]at e;cases e;refine ha H0 av A σ H δ E x he _ λv H1 s r => ?_
   have r':=r.any;have fin:∀t,TyOf G.1.K H1 v t->kitOne G.1.K t cv=some b->ZfR G.1.K [v,c] H1 Q:=λt ty e => .inl ⟨v,c,cv,t,b,rfl,hc,ty,e,k _ H1 s rfl⟩
   cases x with
   |non=>cases(show v=_ from r');exact fin _ .non (I.plain _ (by decide) b (by exact ht))
   |bl y=>cases(show v=_ from r');exact fin _ (.bl y) (I.plain _ (by decide) b (by exact ht))
   |int y=>cases(show v=_ from r');exact fin _ (.int y) (I.plain _ (by decide) b (by exact ht))
   |str y=>cases(show v=_ from r');exact fin _ (.str _) (I.plain _ (by decide) b (by exact ht))
   |lst y=>
    unfold Rep at r';obtain⟨p,vs,rfl,_,rd,_⟩:=r';rcases rd with(rd|⟨o,rd⟩)|rd
    · exact fin _ (.lst rd) (I.plain _ (by decide) b (by exact ht))
    · exact fin _ (.frz rd) (I.plain _ (by decide) b (by exact ht))
    · exact .inr ⟨p,vs,c,cv,b,rfl,hc,rd,I.plain _ (by decide) b (by exact ht),k _ H1 s rfl⟩
   |tup y=>
    unfold Rep at r';obtain⟨p,vs,rfl,_,rd,_⟩:=r';exact fin _ (.tup rd) (I.plain _ (by decide) b (by exact ht))
   |dct ks y=>cases ht
   |dtt ks y=>cases ht
   |obj c' ks y=>
    unfold Rep at r';obtain⟨p,dx,vs,rfl,_,rd,_⟩:=r';dsimp only [UJ]at ht;cases hp:plainKinds.contains c' with
    |true=>rw [hp,if_pos rfl]at ht;cases ht
    |false=>
    rw [hp,if_neg Bool.false_ne_true]at ht;obtain⟨h1,h2⟩:=I.own c' b hp ht;exact fin _ (.ins rd h2.cl h2.ha h2.hn h2.htk h2.hm) h1
end
end DL
namespace L2
open PySem PySem.Spec
section
variable{X:Cx}
theorem ZeD:MtR X "str.index" (λx xs H Q=>∃a c i,x=S a/\xs=[S [c]]/\Xv c a=(i:Nat)/\Q (.int (i:Nat)) H):=by
 intro pins s σ H x xs v us Q I rx rs h;obtain⟨a,c,i,rfl,rfl,e,q⟩:=h;obtain⟨t,rfl⟩:=rx;obtain⟨u,rfl,t',rfl⟩:=Xj rs;have e':=Zf3 a c;rw [e]at e';unfold Txt.find at e';cases ho:Builtin.Str.occurrences (tx a) (tx [c]) 0 (tx a).length 1 with
 |nil=>rw [ho]at e';exact absurd e' (by show ¬(-1:Int)=(i:Int);omega)
 |cons j r=>
  rw [ho]at e'
  have e2:j=i:=by
   have:(j:Int)=(i:Int):=e';omega
  subst e2;exact SC.index ho ⟨.int _,H,I.tok _,⟨_,rfl⟩,q⟩
theorem Zaw:∀{l:List (List Nat)}{us:List Value},Vals (l.map S) us->PyProof.Rows.StrsAre us (l.map tx)
 | [],us,r=>by
  rw [List.map_nil]at r;cases r;exact .nil
 |a::l,us,r=>by
  rw [List.map_cons]at r;cases r with
  |cons r1 r2=>
   obtain⟨t,rfl⟩:=r1;exact .cons _ t (Zaw r2)
theorem Zc4{K:PySem.W.Frag}(hK:X.K=K:=by rfl):MtR X "str.join" (λx xs H Q=>∃sep p l,x=S sep/\xs=[.ref p]/\SqL K H p (l.map S)/\(l.map List.length).sum+l.length*sep.length<=sizeLine/\Q (S (Vh sep l)) H):=by
 subst hK;intro pins s σ H x xs v us Q I rx rs h;obtain⟨sep,p,l,rfl,rfl,hq,hz,q⟩:=h;obtain⟨t,rfl⟩:=rx;obtain⟨u,rfl,rp⟩:=Xj rs;cases rp;obtain⟨its,rv,pl,_⟩:=I.list hq;have hs:sizeLine=16777216:=sizeLine_eq;refine PyProof.Rows.join_list (ys:=l.map tx) pl.isList (by simpa using Zaw rv) ?_ λt' k=>⟨S (Vh sep l),H,I.tok _,⟨t',?_⟩,q⟩
 · have e : ((l.map tx).map (·.length)) = l.map List.length := by
    rw [List.map_map];exact List.map_congr_left λa _=>Y4 a
   rw [e,List.length_map,Y4];omega
 · have:=JR sep l
   show Value.str (Builtin.Str.glued (tx sep) (l.map tx)) t'=_;rw [StrLaws.glued_eq_join,JR]
end
end L2
namespace DL
open PySem PySem.Spec L2
section
variable{cA:Kn}{G:Cn}{ow:List Nat}
def Q1(cA:Kn)(r:V->List V->Hp->VK->Prop)(f:List Nat->List D->Option D):Prop:=
 ∀(i:Addr->Prop)(H:Hp)(a:List Nat)(ds:List D)(vs:List V)(d:D),(∀a,i a->H a≠none)->Vm cA i H ds vs->f a ds=some d->∀Q:VK,(∀v H',Same H H'->Rep cA i H' d v->Q v H')->r (S a) vs H Q
def eBM(f:List Nat->List D->Option D)(a:Env->Option D)(α:Env->Option (List D))(δ:Env):Option D:=match a δ with
 |some (.str cs)=>match α δ with
  |some ds=>f cs ds
  |none=>none
 |_=>none
theorem Q2{K:PySem.W.Frag}{r:V->List V->Hp->VK->Prop}{f:List Nat->List D->Option D}{to:TE}{t:TA}{q0 q:Ql}{a:Env->Option D}{α:Env->Option (List D)}(hr:Q1 G.1 r f)(ha:VE G ow to q0 a)(h:VA G ow t q α) :
 VE G ow (tBM K "str" r to t) q.it (eBM f a α):=λH0 av A σ H δ E d e Q k=>by
 unfold eBM at e;cases hx:a δ with
 |none=>rw [hx]at e;cases e
 |some x=>
  rw [hx]at e;cases x<;>first|(cases e;done)|skip
  rename_i cs;dsimp only at e;cases he:α δ with
  |none=>rw [he]at e;cases e
  |some ds=>
   rw [he]at e;refine ha H0 av A σ H δ E _ hx _ λv H1 s1 r1 => ?_
   have e1:v=S cs:=r1.any;subst e1;refine⟨rfl,h H0 av A σ H1 δ (E.mono s1) ds he _ λvs H2 s2 r2 => ?_⟩;have E2:=(E.mono s1).mono s2;have s12:=s1.trans s2;cases q with
   |cl=>exact hr _ H2 cs ds vs d E2.avl r2.il e _ λv H' s r=>k v H' (s12.trans s) r.t
   |tp=>exact hr _ H2 cs ds vs d E2.avl r2.il e _ λv H' s r=>k v H' (s12.trans s) r.t
   |dt=>exact hr _ H2 cs ds vs d E2.avH r2.il e _ λv H' s r=>k v H' (s12.trans s) r.t
def startsD(a:List Nat):List D->Option D
 | [.str b]=>some (.bl (b.isPrefixOf a))
 |_=>none
def indexD(a:List Nat):List D->Option D
 | [.str [c]]=>if 0<=Xv c a then some (.int (Xv c a))else none
 |_=>none
theorem Zfq{i:Addr->Prop}{H:Hp}{b:List Nat}{vs:List V}(h:Vm cA i H [.str b] vs):vs=[S b]:=by
 obtain⟨v,t,rfl,hx⟩:=il1 h;rw [show v=S b from hx]
theorem ZdZ:Q1 cA (λx xs H Q=>∃a b,x=S a/\xs=[S b]/\Q (.bl (b.isPrefixOf a)) H) startsD:=λi H a ds vs d _ h e Q k=>by
 unfold startsD at e
 split at e
 · cases e;exact⟨a,_,rfl,Zfq h,k _ H (Same.refl H) rfl⟩
 · cases e
theorem ZeE:Q1 cA (λx xs H Q=>∃a c i,x=S a/\xs=[S [c]]/\Xv c a=(i:Nat)/\Q (.int (i:Nat)) H) indexD:=λi H a ds vs d _ h e Q k=>by
 unfold indexD at e
 split at e
 · rename_i c
   by_cases hz:0<=Xv c a
   · rw [if_pos hz]at e
     cases e;exact⟨a,c,(Xv c a).toNat,rfl,Zfq h,by omega,k _ H (Same.refl H) (by rw [Int.toNat_of_nonneg hz];rfl)⟩
   · rw [if_neg hz]at e;cases e
 · cases e
def strs? : List D->Option (List (List Nat))
 | []=>some []
 | .str a::r=>match strs? r with
  |some l=>some (a::l)
  |none=>none
 |_=>none
theorem Zc5:∀{xs:List D}{l:List (List Nat)},strs? xs=some l->xs=l.map D.str
 | [],l,h=>by cases h;rfl
 |x::xs,l,h=>by
  cases x<;>first|(cases h;done)|skip
  rename_i a;unfold strs? at h;cases hr:strs? xs with
  |none=>rw [hr]at h;cases h
  |some r=>
   rw [hr]at h;cases h;rw [List.map_cons,Zc5 hr]
theorem ZeF(l:List (List Nat)):strs? (l.map D.str)=some l:=by
 induction l with
 |nil=>rfl
 |cons a l ih=>rw [List.map_cons,strs?,ih]
def joinD(sep:List Nat):List D->Option D
 | [.lst xs]=>match strs? xs with
  |some l=>if(l.map List.length).sum+l.length*sep.length<=sizeLine then some (.str (Vh sep l))else none
  |none=>none
 |_=>none
theorem Zc6:Q1 cA (λx xs H Q=>∃sep p l,x=S sep/\xs=[.ref p]/\SqL cA.K H p (l.map S)/\(l.map List.length).sum+l.length*sep.length<=sizeLine/\Q (S (Vh sep l)) H) joinD:=λi H a ds vs d _ h e Q k=>by
 unfold joinD at e
 split at e
 · rename_i xs
   cases hs:strs? xs with
   |none=>rw [hs]at e;cases e
   |some l=>
    rw [hs]at e;dsimp only at e
    by_cases hz:(l.map List.length).sum+l.length*a.length<=sizeLine
    · rw [if_pos hz]at e
      cases e;obtain⟨v,t,rfl,p,ws,rfl,_,rd,ll⟩:=il1 h;have ex:=Zc5 hs;subst ex;have ev:=ll.vals (by rw [List.all_map];exact List.all_eq_true.mpr λ_ _=>rfl);rw [List.map_map]at ev;subst ev;exact⟨a,p,l,rfl,rfl,rd,hz,k _ H (Same.refl H) rfl⟩
    · rw [if_neg hz]at e;cases e
 · cases e
end
end DL
namespace L2
open PySem PySem.Spec
structure FunX(K:PySem.W.Frag)(x qual:Str)(st:Stmt)(f:Addr)(fd:FuncData):Prop where
 ex:∃(oc:Value) (od:Option Addr) (dV kV doc pm:Value) (an:Option Addr) (cdv ct:Value) (osl:Array (Option Value)),
  fd=fnOf x qual (defArgs st) (defBody st) (defScope st) dV kV doc pm an cdv ct/\K.lookup f=some ⟨oc,od,.func fd,osl⟩/\codeIn K cdv qual=true
theorem Fun.x{K:PySem.W.Frag}{x qual:Str}{st:Stmt}{f:Addr}{fd:FuncData}(F:Fun K x qual st f fd):FunX K x qual st f fd:=by
 obtain⟨oc,od,kV,doc,pm,an,cdv,ct,osl,h⟩:=F.ex;exact⟨oc,od,.none,kV,doc,pm,an,cdv,ct,osl,h⟩
section
variable{P:Program}{w:World}{K:PySem.W.Frag}{mg:Str->Option Value}{base:Heap}
theorem FunX.ok {x qual:Str} {st:Stmt} {f:Addr} {fd:FuncData} {N ps:List Str} {k:Nat} {sp:Sp} (F:FunX K x qual st f fd) (S:FnScope N ps (defScope st)) (len:∀vs H Q E,sp vs H Q E->vs.length=ps.length)
 (hbody:∀(cdv:Value)(A:Around)(outer:List Env)(s:Shared)(H:Hp)(vs:List V)(Q:VK)(E:XK),Room k (A.deeper (PyProof.Rows.envOfC qual (defScope st) s.heap.objs.size f cdv))->sp vs H Q E ->
   ∃t,PSs (XI CX0 P w K mg base N qual (defScope st) f cdv A outer s H E).nox (defBody st) t/\t { nx:=λ_ H'=>Q .non H',rt:=Q } (start N vs) H):FnOk P w K mg base CX0 (k+1) f fd ps sp:=by
 obtain⟨oc,od,dV,kV,doc,pm,an,cdv,ct,osl,rfl,lk,hcd⟩:=F.ex;refine Zhf lk hcd S len λA outer s H vs Q E hr hsp => ?_
 obtain⟨t,h,q⟩:=hbody cdv A outer s H vs Q E hr hsp;exact⟨t,h.nox,q⟩
end
section
variable{X:Cx}
end
structure CMeth(K:PySem.W.Frag)(C:Addr)(m:Str)(f:Addr):Prop where
 ga:PySem.W.specialIn K (.ref C) "__getattribute__" = some (some (.builtin "type.__getattribute__"))
 rd:PySem.W.readsIn K C (.type "type")=true
 fc:PySem.W.findCls K (.ref C) (.type "type") m=some (.val (.ref f))
 kp:keepIn K (.ref f)=true
section
variable{X:Cx}{CX:CXT}{k:Nat}{f C:Addr}{fd:FuncData}{ps:List Str}{sp:Sp}{dvs:List V}{ds:List Value}{E:XK}{x m:Str}{p pos apos:Pos}{e o:Expr}{es:List Expr}{ta:TE}{t:TA}
end
end L2
namespace DL
open PySem PySem.Spec L2
theorem Zag{a b:String}(h:Str.ofString a=Str.ofString b):a=b:=by
 rw [Str.ofString_eq_toList,Str.ofString_eq_toList]at h
 have h1:(a.toList.map Char.toNat)=(b.toList.map Char.toNat):=by
  have:=congrArg (λs:Str=>s.cps.toList) h;simpa using this
 have inj:∀{x y:List Char},x.map Char.toNat=y.map Char.toNat->x=y:=by
  intro x
  induction x with
  |nil=>
   intro y h;cases y with
   |nil=>rfl
   |cons _ _=>cases h
  |cons c x ih=>
   intro y h;cases y with
   |nil=>cases h
   |cons d y=>
    rw [List.map_cons,List.map_cons,List.cons.injEq]at h;have:c=d:=Char.toNat_inj.mp h.1;rw [this,ih h.2]
 exact String.toList_inj.mp (inj h1)
theorem Zah(a b:String):(Str.ofString a == Str.ofString b)=(a == b):=by
 rw [Bool.eq_iff_iff,beq_iff_eq,beq_iff_eq];exact⟨Zag,λh=>by rw [h]⟩
section
variable{cA:Kn}{G:Cn}{ow owN owB owC:List Nat}
theorem ZbK{av:Addr->Prop}{H:Hp}{f:String}:∀{ks:List String}{xs:List D}{vs:List V}{d:D},RepL cA av H xs vs->(ks.zip xs).lookup f=some d->∃v,((ks.map Str.ofString).zip vs).lookup (Str.ofString f)=some v/\Rep cA av H d v
 | [],_,_,_,_,h=>by simp at h
 |k::ks,[],_,_,_,h=>by simp at h
 |k::ks,x::xs,vs,d,l,h=>by
  obtain⟨v,r,rfl,h1,h2⟩:=l.uncons;rw [List.zip_cons_cons,List.lookup_cons]at h;rw [List.map_cons,List.zip_cons_cons,List.lookup_cons,Zah];cases hk:f == k with
  |true=>rw [hk]at h;cases h;exact⟨v,rfl,h1⟩
  |false=>rw [hk]at h;exact ZbK h2 h
theorem ZbL{f:String}:∀{ks:List String}{vs:List V},ks.contains f=false->((ks.map Str.ofString).zip vs).lookup (Str.ofString f)=none
 | [],_,_=>by simp
 |k::ks,[],_=>by simp
 |k::ks,v::vs,h=>by
  rw [List.contains_cons,Bool.or_eq_false_iff]at h;rw [List.map_cons,List.zip_cons_cons,List.lookup_cons,Zah,h.1];exact ZbL h.2
theorem Zc7{f:String}{y:V}:∀{ks:List String}{vs:List V},ks.length=vs.length->ks.contains f=false->YA (Str.ofString f) y ((ks.map Str.ofString).zip vs)=(((ks++[f]).map Str.ofString).zip (vs++[y]))
 | [],[],_,_=>rfl
 | [],_::_,h,_=>by simp at h
 |_::_,[],h,_=>by simp at h
 |k::ks,v::vs,h,hf=>by
  rw [List.contains_cons,Bool.or_eq_false_iff]at hf
  have hne:¬Str.ofString k=Str.ofString f:=λz=>by
   have:=Zag z;have h1:=hf.1;rw [this]at h1;simp at h1
  rw [List.map_cons,List.zip_cons_cons,List.cons_append,List.cons_append,List.map_cons,List.zip_cons_cons];rw [show YA (Str.ofString f) y ((Str.ofString k,v)::(ks.map Str.ofString).zip vs)=(if Str.ofString k=Str.ofString f then(Str.ofString k,y)::(ks.map Str.ofString).zip vs else(Str.ofString k,v)::YA (Str.ofString f) y ((ks.map Str.ofString).zip vs))from rfl,if_neg hne];rw [Zc7 (by simpa using h) hf.2]
def Ud(K:PySem.W.Frag)(cA:Kn)(cls:List String)(f:String):Prop:=∀c∈cls,Cls K (cA.c c)/\NoAttr K (cA.c c) (Str.ofString f)
def ZF(cls:List String)(f:String)(a:Env->Option D)(δ:Env):Option D:=match a δ with
 |some (.obj c ks xs)=>if cls.contains c then(ks.zip xs).lookup f else none
 |_=>none
theorem YQ{K:PySem.W.Frag}{ta:TE}{q:Ql}{a:Env->Option D}{cls:List String}{f:String}(F:Ud K G.1 cls f)(ha:VE G ow ta q a):VE G ow (JH K ta (Str.ofString f)) q.it (ZF cls f a):=λH0 av A σ H δ E d e Q k=>by
 unfold ZF at e;cases he:a δ with
 |none=>rw [he]at e;cases e
 |some x=>
  rw [he]at e;cases x<;>first|(cases e;done)|skip
  rename_i c ks xs;dsimp only at e
  by_cases hc:cls.contains c=true
  · rw [if_pos hc]at e
    obtain⟨h1,h2⟩:=F c (by simpa using hc);refine ha H0 av A σ H δ E _ he _ λv H1 s r => ?_
    obtain⟨p,dx,vs,rfl,_,rd,_,l⟩:=r.tp;obtain⟨w,hw,rw'⟩:=ZbK l e;refine⟨p,_,dx,_,w,rfl,rd,h1,h2,hw,k w H1 s ?_⟩;cases q<;>exact rw'.t
  · rw [if_neg hc]at e;cases e
def Y6(i:Nat)(cls:List String)(f:String)(ε:Env->Option D)(δ:Env):Option Out:=match ε δ with
 |some d=>match Za i δ with
  |some (.obj c ks xs)=>if cls.contains c && !ks.contains f&&decide (ks.length<1000)then some (.nx (δ.set i (some (.obj c (ks++[f]) (xs++[d])))))else none
  |_=>none
 |none=>none
theorem Qg{K:PySem.W.Frag}{te:TE}{ε:Env->Option D}{cls:List String}{f:String}(i:Nat)(hi:ow.contains i=true)(F:Ud K G.1 cls f)(h:VE G ow te .cl ε):VS G ow ow owB owC (Zkm K (Xr i) te (Str.ofString f)) (Y6 i cls f ε):=λH0 av A σ H δ E o e De k=>by
 unfold Y6 at e;cases he:ε δ with
 |none=>rw [he]at e;cases e
 |some d=>
  rw [he]at e;dsimp only at e;cases hv:Za i δ with
  |none=>rw [hv]at e;cases e
  |some x=>
   rw [hv]at e;cases x<;>first|(cases e;done)|skip
   rename_i c ks xs;dsimp only at e
   by_cases hz:(cls.contains c && !ks.contains f&&decide (ks.length<1000))=true
   · rw [if_pos hz]at e
     cases e;simp only [Bool.and_eq_true,decide_eq_true_eq,Bool.not_eq_true']at hz;obtain⟨⟨z1,z2⟩,z3⟩:=hz;obtain⟨h1,h2⟩:=F c (by simpa using z1);have hi':i∈ow:=by simpa using hi
     cases hA:A i with
     |none=>exact absurd hA (E.dom' i hi')
     |some a=>
      refine h H0 av A σ H δ E d he _ λy H1 s r => ?_
      have E1:=E.mono s;obtain⟨v,g1,_,g3⟩:=E1.var i _ (YI hv);obtain⟨rfl,dx,vs,q1,q0,q2⟩:=g3 a hA;have hl:ks.length=vs.length:=q0.trans q2.length;refine⟨_,g1,a,_,dx,_,rfl,q1,h1,h2,?_,k A σ _ (E1.put hA (YI hv) (λb o hb e=>by rw [Zs hb];exact e) (by rw [ZL];exact λz=>by cases z) ?_)⟩
      · rw [List.length_zip,List.length_map];omega
      · refine⟨dx,vs++[y],?_,by rw [List.length_append,List.length_append,q0];rfl,?_⟩
        · rw [ZL,Zc7 hl z2]
        · have ex : ∀ b o, ¬ AV av A b -> H1 b = some o -> upd H1 a (.ins (G.1.c c) dx (YA (Str.ofString f) y ((ks.map Str.ofString).zip vs))) b = some o := fun b o n e => by
           rw [Zs λz=>n (.inr ⟨i,by rw [z];exact hA⟩)];exact e
          exact(q2.append (.cons (RepT.r r) .nil)).ext ex
   · rw [if_neg hz]at e;cases e
def spI(cA:Kn)(n:Nat)(m:List D->Option D):Sp:=λvs H Q _=>∃(x:Addr) (r:List V) (av:Addr->Prop) (ds:List D) (d d':D),vs = .ref x::r/\(∀a,av a->H a≠none)/\¬av x/\Own cA (λa=>av a\/a=x) H d x/\RepL cA (λa=>av a\/a=x) H ds r/\(d::ds).length=n/\m (d::ds)=some d' /\
 ∀H',(∀b o,b≠x->H b=some o->H' b=some o)->Own cA (λa=>av a\/a=x) H' d' x->Q .non H'
theorem Own.live{av:Addr->Prop}{H:Hp}{d:D}{a:Addr}(h:Own cA av H d a):H a≠none:=by
 cases d with
 |lst xs=>obtain⟨vs,q,_⟩:=h;rw [q];exact λz=>by cases z
 |obj c ks xs=>obtain⟨dx,vs,q,_⟩:=h;rw [q];exact λz=>by cases z
 |dct ks xs=>obtain⟨vs,q,_⟩:=h;rw [q];exact λz=>by cases z
 |dtt ks xs=>obtain⟨vs,q,_⟩:=h;rw [q];exact λz=>by cases z
 |_=>exact h.elim
theorem Own.av{av av':Addr->Prop}{H:Hp}{d:D}{a:Addr}(k:∀b,av' b->av b\/H b=none)(h:Own cA av H d a):Own cA av' H d a:=by
 cases d with
 |lst xs=>obtain⟨vs,q,l⟩:=h;exact⟨vs,q,l.av k⟩
 |obj c ks xs=>obtain⟨dx,vs,q,z,l⟩:=h;exact⟨dx,vs,q,z,l.av k⟩
 |dct ks xs=>obtain⟨vs,q,z,l⟩:=h;exact⟨vs,q,z,l.av k⟩
 |dtt ks xs=>obtain⟨vs,q,z,l⟩:=h;exact⟨vs,q,z,l.av k⟩
 |_=>exact h.elim
theorem Own.rep{av:Addr->Prop}{H:Hp}{d:D}{a:Addr}(n:¬av a)(h:Own cA av H d a):Rep cA av H d (.ref a):=by
 cases d with
 |lst xs=>obtain⟨vs,q,l⟩:=h;unfold Rep;exact⟨a,vs,rfl,λz=>(n z).elim,SqL.of q,l⟩
 |obj c ks xs=>obtain⟨dx,vs,q,z,l⟩:=h;unfold Rep;exact⟨a,dx,vs,rfl,n,q,z,l⟩
 |dct ks xs=>obtain⟨vs,q,z,l⟩:=h;unfold Rep;exact⟨a,vs,rfl,n,q,z,l⟩
 |dtt ks xs=>obtain⟨vs,q,z,l⟩:=h;unfold Rep;exact⟨a,vs,rfl,n,q,z,l⟩
 |_=>exact h.elim
def VY(c:String)(n:Nat)(m:List D->Option D)(dds:List D)(α:Env->Option (List D))(δ:Env):Option D:=match α δ with
 |some ds=>if(D.obj c [] []::(ds++dds)).length=n then m (.obj c [] []::(ds++dds))else none
 |none=>none
theorem Zgf{n:Nat}{m:List D->Option D}{t:TA}{α:Env->Option (List D)}{E0:XK}{c:String}(dds:List D)(hd:dds.all Zx=true)(h:VA G ow t .cl α):VE G ow (Zhe (G.1.c c) (spI G.1 n m) (dds.map val) E0 t) .cl (VY c n m dds α):=λH0 av A σ H δ E d e Q k=>by
 unfold VY at e;cases he:α δ with
 |none=>rw [he]at e;cases e
 |some ds=>
  rw [he]at e;dsimp only at e
  by_cases hz:(D.obj c [] []::(ds++dds)).length=n
  · rw [if_pos hz]at e
    refine h H0 av A σ H δ E ds he _ λvs H1 s1 r1 x dx hx hdx hne => ?_
    have E1:=E.mono s1;have s2:Same H1 (upd (upd H1 dx (.own x)) x (.ins (G.1.c c) dx [])):=(Yb hdx).trans (Yb (by rw [Zs (Ne.symm hne)];exact hx));have nx:¬AV av A x:=λz=>E1.avl x z hx
    refine⟨x,vs++dds.map val,AV av A,ds++dds,.obj c [] [],d,rfl,λa z => ?_,nx,⟨dx,[],ZL,rfl,.nil⟩,?_,hz,e,λH' hk ho=>⟨rfl,k _ H' ?_ ?_⟩⟩
    · have:=E1.avl a z
      cases q:H1 a with
      |none=>exact absurd q this
      |some o=>rw [s2 a o q];exact λz=>by cases z
    · refine RepL.same s2 ((r1.cl.append (.of_vals hd)).av λb z => ?_)
      rcases z with z|z
      · exact .inl z
      · exact .inr (by rw [z];exact hx)
    · refine s1.trans λb o e=>hk b o (λz=>by rw [z,hx]at e;cases e) (s2 b o e)
    · exact((ho.av λb z => .inl (.inl z)).rep nx).t
  · rw [if_neg hz]at e;cases e
def Zhu(i n:Nat)(m:List D->Option D)(dds:List D)(α:Env->Option (List D))(δ:Env):Option Out:=match Za i δ with
 |some d=>match α δ with
  |some ds=>if(d::(ds++dds)).length=n then(match m (d::(ds++dds))with
   |some d'=>some (.nx (δ.set i (some d')))
   |none=>none)else none
  |none=>none
 |none=>none
def runI(N:Nat)(φ:Env->Option Out)(ds:List D):Option D:=match φ (ds.map some++List.replicate (N-ds.length) none)with
 |some (.nx δ)=>Za 0 δ
 |_=>none
section
variable{P:Program}{w:World}{K:PySem.W.Frag}{mg:Str->Option Value}{base:Heap}
theorem ZkT {x qual:Str} {st:Stmt} {f:Addr} {fd:FuncData} {N ps:List Str} {k:Nat} {φ:Env->Option Out} (F:FunX K x qual st f fd) (S:FnScope N ps (defScope st))
 (hbody:∀(cdv:Value)(A:Around)(outer:List PySem.Env)(s:Shared)(H:Hp)(E:XK)(a:Addr),Room k (A.deeper (PyProof.Rows.envOfC qual (defScope st) s.heap.objs.size f cdv)) ->
   ∃t,PSs (XI CX0 P w K mg base N qual (defScope st) f cdv A outer s H E).nox (defBody st) t/\VS ⟨cA,λj=>if j=0 then some (.inl a)else none⟩ [0] [0] [] [] t φ):FnOk P w K mg base CX0 (k+1) f fd ps (spI cA ps.length (runI N.length φ)):=by
 refine F.ok S (λvs H Q E h => ?_) λcdv A outer s H vs Q E hr h => ?_
 · obtain⟨x,r,av,ds,d,d',rfl,_,_,_,l,hl,_⟩:=h
   rw [<-hl,List.length_cons,List.length_cons,l.length]
 · obtain⟨x,r,av,ds,d,d',rfl,ha,nx,ho,l,hl,hm,q⟩:=h
   obtain⟨t,ht,hv⟩:=hbody cdv A outer s H E x hr;refine⟨t,ht,?_⟩;unfold runI at hm;cases hφ:φ ((d::ds).map some++List.replicate (N.length-(d::ds).length) none)with
   |none=>rw [hφ]at hm;cases hm
   |some o=>
    rw [hφ]at hm;cases o<;>first|(cases hm;done)|skip
    rename_i δ';have hm:Za 0 δ'=some d':=hm
    have hAV:∀b,AV av (λj=>if j=0 then some x else none) b ↔ av b\/b=x:=λb=>by
     constructor
     · rintro(z|⟨j,z⟩)
       · exact .inl z
       · by_cases e:j=0
         · simp [e]at z;exact .inr z.symm
         · simp [e]at z
     · rintro(z|z)
       · exact .inl z
       · exact .inr ⟨0,by simp [z]⟩
    have E0:ER ⟨cA,λj=>if j=0 then some (.inl x)else none⟩ [0] (λb=>if b=x then none else H b) av (λj=>if j=0 then some x else none) (L2.start N (.ref x::r)) H ((d::ds).map some++List.replicate (N.length-(d::ds).length) none):=by
     refine⟨λb o e => ?_,λa z => ?_,λi a e => ?_,λi j a e1 e2 => ?_,λi a e => ?_,λi e => ?_,λi hi => ?_,?_,(λi a e=>by
      by_cases q:i=0
      · simp [q]at e;simp [q,e]
      · simp [q]at e),(λi v e=>by
      by_cases q:i=0
      · simp [q]at e
      · simp [q]at e),λi d'' e => ?_⟩
     · by_cases q:b=x
       · simp [q]at e
       · simpa [q]using e
     · have:a≠x:=λq=>nx (q▸z)
       simp [this];exact ha a z
     · by_cases q:i=0
       · simp [q]at e;simp [e]
       · simp [q]at e
     · by_cases q:i=0
       · by_cases q2:j=0
         · rw [q,q2]
         · simp [q2]at e2
       · simp [q]at e1
     · by_cases q:i=0
       · simp [q]at e;subst e;exact ho.live
       · simp [q]at e
     · by_cases q:i=0
       · simp [q]
       · simp [q]at e
     · have:i=0:=by simpa using hi
       simp [this]
     · unfold L2.start
       rw [List.length_append,List.length_append,List.length_map,List.length_map,List.length_replicate,List.length_replicate,List.length_cons,List.length_cons,l.length]
     · by_cases q:i=0
       · subst q
         have e':d=d'':=by simpa using e
         subst e'
         exact⟨.ref x,by simp [L2.start],λz=>by simp at z,λa z=>by
          simp at z;subst z;exact⟨rfl,ho.av λb z => .inl ((hAV b).mp z)⟩⟩
       · obtain⟨i,rfl⟩:∃i',i=i'+1:=⟨i-1,by omega⟩
         have e2:(ds.map some++List.replicate (N.length-(ds.length+1)) none)[i]? = some (some d''):=by simpa using e
         by_cases hi:i<ds.length
         · rw [List.getElem?_append_left (by simpa using hi),List.getElem?_map]at e2
           cases hd:ds[i]? with
           |none=>rw [hd]at e2;cases e2
           |some z=>
            rw [hd]at e2;cases e2;obtain⟨v,hv',rv⟩:=l.get hd;refine⟨v,?_,λ_=>rv.av λb z => .inl ((hAV b).mp z),λa z=>by simp at z⟩;unfold L2.start;have:i+1<(V.ref x::r).length:=by rw [List.length_cons,<-l.length];omega
            rw [List.getElem?_append_left (by simpa using this),List.getElem?_map];simp [hv']
         · rw [List.getElem?_append_right (by simpa using hi),List.getElem?_replicate]at e2
           split at e2<;>cases e2
    refine hv _ av _ _ H _ E0 _ hφ _ λA' σ' H' E' => ?_
    have hA':A' 0=some x:=E'.pin 0 x (by simp);obtain⟨v,_,_,g3⟩:=E'.var 0 d' (YI hm);obtain⟨_,ho'⟩:=g3 x hA';refine q H' (λb o hb e=>E'.same b o (by simpa [hb]using e)) (ho'.av λb z => ?_);rcases z with z|z
    · exact .inl (.inl z)
    · exact .inl (.inr ⟨0,by rw [hA',z]⟩)
theorem Zi4 {x qual:Str} {st:Stmt} {f:Addr} {fd:FuncData} {N ps:List Str} {k:Nat} {φ:Env->Option Out} (F:FunX K x qual st f fd) (S:FnScope N ps (defScope st))
 (hbody:∀(cdv:Value)(A:Around)(outer:List PySem.Env)(s:Shared)(H:Hp)(E:XK),Room k (A.deeper (PyProof.Rows.envOfC qual (defScope st) s.heap.objs.size f cdv)) ->
   ∃t,PSs (XI CX0 P w K mg base N qual (defScope st) f cdv A outer s H E).nox (defBody st) t/\∃owN,VS ⟨cA,λ_=>none⟩ [] owN [] [] t φ):FnOk P w K mg base CX0 (k+1) f fd ps (spD cA ps.length (run N.length φ)):=by
 refine F.ok S (λvs H Q E h => ?_) λcdv A outer s H vs Q E hr h => ?_
 · obtain⟨av,ds,d,_,r,hl,_⟩:=h
   rw [<-r.length,hl]
 · obtain⟨av,ds,d,ha,r,hl,hm,q⟩:=h
   obtain⟨t,ht,owN,hv⟩:=hbody cdv A outer s H E hr;refine⟨t,ht,?_⟩;unfold run at hm;cases hφ:φ (ds.map some++List.replicate (N.length-ds.length) none)with
   |none=>rw [hφ]at hm;cases hm
   |some o=>
    rw [hφ]at hm;refine hv H av _ _ H _ (ZeB ha r) o hφ _ ?_;cases o with
    |nx δ'=>cases hm;exact λA' σ' H' E'=>q .non H' E'.same rfl
    |rt d'=>cases hm;exact λv H' s' r'=>q v H' s' r'
    |bk δ'=>cases hm
    |ct δ'=>cases hm
end
abbrev MTab:=List (String×(Nat×(List D->Option D)))
structure MethOk(X:Cx)(cA:Kn)(k:Nat)(m:String)(c:String)(n:Nat)(mm:List D->Option D):Prop where
 ex:∃f fd ps,Cls X.K (cA.c c)/\Meth X.K (cA.c c) (Str.ofString m) f/\FnOk X.prog X.w X.K X.mg X.base CX0 k f fd ps (spD cA n mm)/\Binds X.K fd ps []
def MTOk(X:Cx)(cA:Kn)(k:Nat)(m:String):MTab->Prop
 | []=>True
 |(c,n,mm)::r=>MethOk X cA k m c n mm/\MTOk X cA k m r
theorem MTOk.get{X:Cx}{k:Nat}{m:String}:∀{tab:MTab}{c:String}{n:Nat}{mm:List D->Option D},MTOk X cA k m tab->tab.lookup c=some (n,mm)->MethOk X cA k m c n mm
 | [],_,_,_,_,h=>by simp at h
 |(c',n',mm')::r,c,n,mm,T,h=>by
  rw [List.lookup_cons]at h;cases hc:c == c' with
  |true=>
   rw [hc]at h;cases h;have:c=c':=eq_of_beq hc;subst this;exact T.1
  |false=>
   rw [hc]at h;exact MTOk.get T.2 h
def Zfr(cA:Kn)(m:String)(tab:MTab)(ta:TE)(t:TA):TE:=λσ H Q=>ta σ H λx H1=>∃a dx fs c n mm,x = .ref a/\H1 a=some (.ins (cA.c c) dx fs)/\fs.lookup (Str.ofString m)=none/\tab.lookup c=some (n,mm)/\t σ H1 λvs H2=>spD cA n mm (x::vs) H2 Q E0
theorem Zak {X:Cx} {k:Nat} {m:String} {tab:MTab} {o:Expr} {ta:TE} {pos apos:Pos} {pl:Sem Bool} (T:MTOk X cA k m tab) (hr:Room k X.A) (he:PE X o ta)
 (ht:eval (.Call (.Attribute o (Str.ofString m) apos) [] [] pos) X.env=(do
   let ov <-eval o X.env
   standAt apos.atName
   let(f,first) <-holding [ov] (getMethod ov (Str.ofString m) pl)
   callWith pos f first (backTo pos (starEach [] X.env)) (backToKw pos (keywordEach [] X.env))):=by rfl) :
 PE X (.Call (.Attribute o (Str.ofString m) apos) [] [] pos) (Zfr cA m tab ta tNil):=by
 intro pins s σ H Q I h;refine PySem.W.methodCall_KW (pl:=pl) (thn (he pins s σ H _ I h) λu s1 ⟨x,H1,I1,rx,a,dx,fs,c,n,mm,ex,ea,l,tl,q⟩ => ?_) ht;subst ex;obtain rfl:u=Value.ref a:=rx;obtain⟨f,fd,ps,hc,hm,F,hb⟩:=(T.get tl).ex;refine Zb8 I1 ea hc hm l ?_;exact PySem.W.callWith_K0 (first:=[.ref a]) I1.kIn hm.kp (Zfh (us:=[.ref a]) (vs:=[.ref a]) (dvs:=[]) (ds:=[]) F hr hb .nil ZY I1 (.cons rfl .nil) (by rw [List.append_nil];exact q))
def YZ(m:String)(tab:MTab)(a:Env->Option D)(α:Env->Option (List D))(δ:Env):Option D:=match a δ with
 |some (.obj c ks xs)=>if ks.contains m then none else(match tab.lookup c with
  |some (n,mm)=>match α δ with
   |some ds=>if(D.obj c ks xs::ds).length=n then mm (.obj c ks xs::ds)else none
   |none=>none
  |none=>none)
 |_=>none
theorem Zbf{m:String}{tab:MTab}{ta:TE}{t:TA}{a:Env->Option D}{α:Env->Option (List D)}(ha:VE G ow ta .cl a)(h:VA G ow t .cl α):VE G ow (Zfr G.1 m tab ta t) .cl (YZ m tab a α):=λH0 av A σ H δ E d e Q k=>by
 unfold YZ at e;cases hx:a δ with
 |none=>rw [hx]at e;cases e
 |some x=>
  rw [hx]at e;cases x<;>first|(cases e;done)|skip
  rename_i c ks xs;dsimp only at e;cases hf:ks.contains m with
  |true=>rw [hf,if_pos rfl]at e;cases e
  |false=>
   rw [hf,if_neg Bool.false_ne_true]at e;cases htb:tab.lookup c with
   |none=>rw [htb]at e;cases e
   |some p=>
    obtain⟨n,mm⟩:=p;rw [htb]at e;dsimp only at e;cases he:α δ with
    |none=>rw [he]at e;cases e
    |some ds=>
     rw [he]at e;dsimp only at e
     by_cases hz:(D.obj c ks xs::ds).length=n
     · rw [if_pos hz]at e
       refine ha H0 av A σ H δ E _ hx _ λv H1 s1 r1 => ?_
       obtain⟨p,dx,vs,rfl,np,rd,zl,l⟩:=r1;refine⟨p,dx,_,c,n,mm,rfl,rd,ZbL hf,htb,h H0 av A σ H1 δ (E.mono s1) ds he _ λws H2 s2 r2 => ?_⟩;have E2:=(E.mono s1).mono s2;refine⟨AV av A,.obj c ks xs::ds,d,E2.avl,.cons ?_ r2.cl,hz,e,λv H' s r=>k v H' ((s1.trans s2).trans s) r.t⟩;unfold Rep;exact⟨p,dx,vs,rfl,np,s2 _ _ rd,zl,l.same s2⟩
     · rw [if_neg hz]at e;cases e
def isD:D->D->Option D
 | .bl a,.bl b=>some (.bl (a == b))
 |_,_=>none
end
end DL
namespace DL
open PySem PySem.Spec L2
def Xc:Nat->List D->List D
 |_,[]=>[]
 |k,x::xs => .tup [.int (k:Nat),x]::Xc (k+1) xs
theorem Q3:∀(k:Nat)(xs:List D),(Xc k xs).length=xs.length
 |_,[]=>rfl
 |k,x::xs=>by rw [Xc,List.length_cons,List.length_cons,Q3]
theorem Za0:∀(k:Nat)(xs:List D)(i:Nat),(Xc k xs)[i]? = (xs[i]?).map λx => .tup [.int ((k+i:Nat):Int),x]
 |_,[],i=>by simp [Xc]
 |k,x::xs,0=>by simp [Xc]
 |k,x::xs,i+1=>by
  rw [Xc,List.getElem?_cons_succ,List.getElem?_cons_succ,Za0 (k+1) xs i];have:k+1+i=k+(i+1):=by omega
  rw [this]
section
variable{cA:Kn}{G:Cn}{ow:List Nat}
end
end DL
namespace DL
open PySem PySem.Spec L2
section
variable{cA:Kn}{P:Program}{w:World}{K:PySem.W.Frag}{mg:Str->Option Value}{base:Heap}
theorem YB {x qual:Str} {st:Stmt} {f:Addr} {fd:FuncData} {N ps:List Str} {k:Nat} {φ:Env->Option Out} {body:List Stmt} {scope:Scope} {n:Nat} {m:List D->Option D} (F:FunX K x qual st f fd) (S:FnScope N ps (defScope st)) (hS:defScope st=scope) (hB:defBody st=body)
 (hbody:∀(cdv:Value)(A:Around)(outer:List PySem.Env)(s:Shared)(H:Hp)(E:XK),Room k (A.deeper (PyProof.Rows.envOfC qual scope s.heap.objs.size f cdv)) ->
   ∃t,PSs (XI CX0 P w K mg base N qual scope f cdv A outer s H E).nox body t/\∃owN,VS ⟨cA,λ_=>none⟩ [] owN [] [] t φ)  (hm:m=run N.length φ) (hn:ps.length=n):FnOk P w K mg base CX0 (k+1) f fd ps (spD cA n m):=by
 subst hS hB hm hn;exact Zi4 F S hbody
theorem Zi5 {x qual:Str} {st:Stmt} {f:Addr} {fd:FuncData} {N ps:List Str} {k:Nat} {φ:Env->Option Out} {body:List Stmt} {scope:Scope} {n:Nat} {m:List D->Option D} (F:FunX K x qual st f fd) (S:FnScope N ps (defScope st)) (hS:defScope st=scope) (hB:defBody st=body)
 (hbody:∀(cdv:Value)(A:Around)(outer:List PySem.Env)(s:Shared)(H:Hp)(E:XK)(a:Addr),Room k (A.deeper (PyProof.Rows.envOfC qual scope s.heap.objs.size f cdv)) ->
   ∃t,PSs (XI CX0 P w K mg base N qual scope f cdv A outer s H E).nox body t/\VS ⟨cA,λj=>if j=0 then some (.inl a)else none⟩ [0] [0] [] [] t φ)  (hm:m=runI N.length φ) (hn:ps.length=n):FnOk P w K mg base CX0 (k+1) f fd ps (spI cA n m):=by
 subst hS hB hm hn;exact ZkT F S hbody
end
end DL
namespace DL
open PySem PySem.Spec L2 PyProof.Rows
def XA:List D->Option (List Int)
 | []=>some []
 | .int b::r=>match XA r with
  |some bs=>some (b::bs)
  |none=>none
 |_=>none
theorem ZaF:∀{xs:List D}{bs:List Int},XA xs=some bs->xs=bs.map D.int
 | [],bs,h=>by cases h;rfl
 |x::xs,bs,h=>by
  cases x<;>first|(cases h;done)|skip
  rename_i b;unfold XA at h;cases hr:XA xs with
  |none=>rw [hr]at h;cases h
  |some cs=>
   rw [hr]at h;cases h;rw [List.map_cons,ZaF hr]
theorem intsD_map(bs:List Int):XA (bs.map D.int)=some bs:=by
 induction bs with
 |nil=>rfl
 |cons b bs ih=>rw [List.map_cons,XA,ih]
theorem ZaG:∀(ns:List Int)(its:List Value),Vals (ns.map V.int) its->IntsAre its ns
 | [],its,h=>by cases h;exact .nil
 |n::ns,its,h=>by
  cases h with
  |cons r1 r2=>
   obtain⟨t,rfl⟩:=r1;exact .cons _ _ (ZaG ns _ r2)
section
variable{X:Cx}{K:PySem.W.Frag}{cA:Kn}
end
end DL
namespace L2
open PySem PySem.Spec PyProof.Rows
section
variable{X:Cx}{scope:Scope}{tn cn:List Str}{js:List Nat}{tg iter elt:Expr}{ifs:List Expr}{pos spos pos':Pos}{wi:TI}{g:TG}{tt:TT}{te:TE}
theorem Zbg {i:Nat} {x:Str} (hN:X.N.Nodup) (hi:X.N[i]? = some x) (hx:X.env.scope.names.lookup x=some .local) (hc:X.calm=true) (S:CompSc X scope tn cn js) (hI:PI X tg iter wi)
 (hg:∀C s₂ H₂ fp,PG (Xw X scope (tn++cn) C s₂ H₂ fp) tg g) (ht:∀C s₂ H₂ fp,PTs (Xw X scope (tn++cn) C s₂ H₂ fp) ifs tt) (he:∀C s₂ H₂ fp,PE (Xw X scope (tn++cn) C s₂ H₂ fp) elt te)
 (hsw:swapsWith (.ListComp elt [⟨tg,iter,ifs,0⟩] scope pos) (some (.Name x pos')) spos.line X.env=pure true:=by rfl)
 (hs:∀x,foldedSetIterable iter X.env x=pure x:=by intro _;rfl) :
 PS X (.Assign [.Name x pos'] (.ListComp elt [⟨tg,iter,ifs,0⟩] scope pos) spos) (XH (QP wi g tt te tn.length js) (XG i)):=by
 intro pins s σ H D I h;rw [exec_Assign_Name_used _ _ _ _ hsw];refine wpAny_bind (wpAny_standAt (wpAny_bind ?_));show wpAny _ X.A (do let _ <-comprehension (.ListComp elt [⟨tg,iter,ifs,0⟩] scope pos) scope X.env _ (newList []) false (eval iter X.env) (some (assign (.Name x pos') X.env))) _ _ s
 refine wpAny_bind (wpAny_mono (wpAny_comprehension_free (use:=some (assign (.Name x pos') X.env)) (Q:=λ_ s'=>SP X pins D .next s') (cl:=YW X.env.cells scope.names []) rfl hs (Zac (S.clos I.ok)) S.kind S.names
  (thn (hI pins s σ H _ I h) λv s1 h1=>thn h1 λitv s2 h2 => ?_)) (λ_ s' hq=>wpAny_pure (wpAny_pure hq)) λ_ _ e=>e)
 obtain⟨it,fp,tnx,J,H2,e,I2,T,st2,f2,W,⟨m0,w0⟩,turn⟩:=h2;subst e;refine Zau (RR:=λacc C=>compPost (model X.prog X.w) X.A X.xe (some (assign (.Name x pos') X.env)) (λ_ s'=>SP X pins D .next s') acc C) (W:=W) (m0:=m0) hc S hg ht he I2 T st2 f2 w0 λi' m ys H w => ?_
 rcases turn i' m ys H w with⟨stop,qn⟩|r
 · refine .inl ⟨stop,λC D' s its n σ' hC hD hDC hv hz I' => ?_⟩
   obtain⟨m',hn,_⟩:=id I'.loc;have pd:=I'.pin (D',{ cls := .type "list",data := .seq its.toArray n }) (List.mem_append_right _ List.mem_cons_self);have hCf:H C=none:=I'.free;have I1:Inv X pins σ (upd H D' (.lst ys)) { s with heap:=s.heap }:=ZbG S I2 hC hD hDC f2 I' hv hz (Heap.SameBut.refl _ _);show wpAny _ X.A (assign (.Name x pos') X.env (.ref D')) _ _ _;have hlC:X.env.locals≠C:=λz=>absurd (z▸I2.lt) (Nat.not_lt.mpr hC)
   have hcC:∀y c,X.env.cells.lookup y=some c->c≠C:=λy c e z=>by
    obtain⟨v',o',q,_⟩:=I2.cell y c e;exact absurd (Heap.lt_size q) (Nat.not_lt.mpr (z▸hC))
   refine wpAny_assign_Name (ZaN I1 hN hi (.inl hx) (v:=.ref D') rfl (λs3 I3 ⟨a,hsb,ha⟩ => ?_) (.inr hx))
   have hCa:C≠a:=by
    rcases ha with rfl|ha
    · exact Ne.symm hlC
    · exact Ne.symm (hcC _ _ ha)
   refine⟨m',hn.sameBut hsb hCa,λh' hs' => ?_⟩;have hCn:upd H D' (.lst ys) C=none:=by rw [Zs (Ne.symm hDC)];exact hCf
   have I4:Inv X pins (σ.set i (some (.ref D'))) (upd H D' (.lst ys)) { s3 with heap:=h',toks:=s3.toks }:=I3.turned (it:=C) (λb o hb e=>(hs'.2 b hb).trans e) hCn (Ne.symm hlC) (.inr (Nat.le_trans (Nat.le_trans I2.ok.above (Nat.le_of_lt I2.lt)) hC)) (λy c e=>hcC y c e) λp hp z=>by
    have:=(I2.pin p hp).1;exact absurd (Heap.lt_size this) (Nat.not_lt.mpr (z▸hC))
   exact⟨_,_,I4,qn D' pd.2.1⟩
 · exact .inr r
end
end L2
namespace L2
open PySem PySem.Spec PyProof.Rows Builtin Builtin.Str
section
variable{X:Cx}
end
end L2
namespace DL
open PySem PySem.Spec L2
variable{cA:Kn}
end DL
namespace PySem
open Builtin SmallTypes
open AutoSeq1 (wpAny_loadPart')
end PySem
namespace PySem
open Sem (wp)
end PySem
namespace PySem
open Sem (wp)
section
variable{P:Program}{w:World}{A:Around}{E:Value->Shared->Prop}{s:Shared}
end
end PySem
namespace L2
open PySem PySem.Spec PyProof.Rows
end L2
namespace L2
open PySem PySem.Spec PyProof.Rows
section
variable{X:Cx}{elts:List Expr}{x1:Nat}{tpos:Pos}
end
end L2
namespace DL
open PySem PySem.Spec L2
section
variable{cA:Kn}{G:Cn}{ow:List Nat}
end
end DL
namespace PySem
open Builtin SmallTypes
open AutoSeq1 (wpAny_loadPart')
end PySem
namespace PySem
section
variable{P:Program}{w:World}{A:Around}{E:Value->Shared->Prop}{s:Shared}
end
end PySem
namespace L2
open PySem PySem.Spec PyProof.Rows
section
variable{X:Cx}{elts:List Expr}{x1:Nat}{tpos:Pos}
end
end L2
namespace DL
open PySem PySem.Spec L2
section
variable{cA:Kn}{G:Cn}{ow:List Nat}
end
end DL
namespace DL
open PySem PySem.Spec L2 PyProof.Rows
def Wd(i:Int):Prop:=i.natAbs<2 ^ 8000
instance (i:Int):Decidable (Wd i):=by unfold Wd;infer_instance
def CMulW(i j:Int):Prop:=(Wd i/\Wd j)\/CMul i j
instance (i j:Int):Decidable (CMulW i j):=by unfold CMulW;infer_instance
def UK(_ j:Int):Prop:=j≠0/\Wd j
instance (i j:Int):Decidable (UK i j):=by unfold UK;infer_instance
instance (i j:Int):Decidable (Zkl i j):=by unfold Zkl;infer_instance
theorem Zfs{i:Int}(h:Wd i)(h0:i≠0):i.natAbs.log2<8000:=(Nat.log2_lt (by omega)).mpr h
theorem CMulW.ok{i j:Int}(h:CMulW i j):IntMulOk i j:=by
 rcases h with⟨h1,h2⟩|h
 · have bits : ∀ {a : Int}, Wd a -> Builtin.Int.intBits a <= 2 ^ 20 := fun {a} ha => by
    unfold Builtin.Int.intBits
    by_cases h0:a=0
    · subst h0;decide
    · have:=Zfs ha h0
      have e:(2:Nat) ^ 20=1048576:=by decide
      rw [e]
      split<;>omega
   exact .of_bits (bits h1) (bits h2)
 · exact h.ok
section
variable{X:Cx}{cA:Kn}
theorem op_mulW:OpR X (binaryOp .Mult) (rI CMulW λi j => .int (i*j)):=opI λ_ _ _ _ _ _ _ hc q=>mul_int q hc.ok
theorem Xd:OpR X (binaryOp .FloorDiv) (rI UK λi j => .int (i.fdiv j)):=opI λ_ _ _ _ _ _ _ hc q=>floordiv_int hc.1 q (.inl (PyProof.noPylong_of_log2 (Nat.lt_trans (Zfs hc.2 hc.1) (by decide))))
def fdivW:D->D->Option D
 | .int i,.int j=>if UK i j then some (.int (i.fdiv j))else none
 |_,_=>none
def modW:D->D->Option D
 | .int i,.int j=>if j≠0 then some (.int (i.fmod j))else none
 |_,_=>none
theorem Zhv{C:Int->Int->Prop} [∀i j,Decidable (C i j)]{g:Int->Int->Int}{f:D->D->Option D}(hf:∀x y d,f x y=some d->∃i j,x = .int i/\y = .int j/\C i j/\d = .int (g i j)):Xm cA (rI C λi j => .int (g i j)) f:=λt t' i H x y vx vy d _ hx hy e Q k=>by
 obtain⟨a,b,rfl,rfl,hc,rfl⟩:=hf x y d e;cases(show vx=_ from hx);cases(show vy=_ from hy);exact⟨_,_,rfl,rfl,hc,k _ H (Same.refl H) rfl⟩
theorem Xe:Xm cA (rI UK λi j => .int (i.fdiv j)) fdivW:=Zhv λx y d e=>by
 cases x<;>cases y<;>first|(cases e;done)|skip
 rename_i a b;dsimp only [fdivW]at e
 by_cases hz:UK a b
 · rw [if_pos hz]at e;cases e;exact⟨_,_,rfl,rfl,hz,rfl⟩
 · rw [if_neg hz]at e;cases e
theorem Ys:Xm cA (rI (λ_ j=>j≠0) λi j => .int (i.fmod j)) modW:=Zhv λx y d e=>by
 cases x<;>cases y<;>first|(cases e;done)|skip
 rename_i a b;dsimp only [modW]at e
 by_cases hz:b≠0
 · rw [if_pos hz]at e;cases e;exact⟨_,_,rfl,rfl,hz,rfl⟩
 · rw [if_neg hz]at e;cases e
end
end DL
namespace L2
open PySem PySem.Spec PySem.W PyProof.Rows
def bmV:List Value:=[.type "ValueError",.type "Exception",.type "BaseException",.type "object"]
section
variable{X:Cx}{E:XK}{C:Addr}{x:Str}{p cpos pos:Pos}{e:Expr}{es:List Expr}{t:TA}
end
def CX1(P:Program)(w:World):CXT:=λouter H s E ev s'=>∃(ea:Addr) (cls a0:Value) (B:Heap) (H':Hp),ev = .ref ea/\s'.os=s.os/\AllBare s'.gens/\Heap.FlyingW B outer ea cls a0 s'.heap /\
 (∀b o,s.heap.get? b=some o->H b=none->b∉frs outer->B.get? b=some o)/\HOk P w H' B/\Same H H'/\(∀b o,s.heap.get? b=some o->H b=none->H' b=none)/\(∀b o,s.heap.get? b=some o->b∈frs outer->∃sl,s'.heap.get? b=some { o with slots:=sl })/\E cls none H'
section
variable{P:Program}{w:World}{K:PySem.W.Frag}{mg:Str->Option Value}{base:Heap}{N:List Str}{qual:Str}{scope:Scope}{f:Addr}{cd:Value}{A:Around}{outer:List Env}{s:Shared}{H:Hp}{E:XK}
end
end L2
namespace L2
open PySem PySem.Spec PySem.W PyProof.Rows PySem.Calls PySem.Builtin PySem.Builtin.ObjectAttr PySem.Builtin.Getset_descriptor
def Zi6(e:Addr)(C:Value)(hp:Heap):Prop:=∃o:Obj,hp.get? e=some o/\o.cls=C
structure ExCls(K:PySem.W.Frag)(C:Addr):Prop where
 ex:excIn K C bmV "ValueError.__new__" = true
 ga:findIn K (.ref C) "__getattribute__" = some (some (.builtin "BaseException.__getattribute__"))
 mb:mroIn K C (.type "BaseException")=some true
 gt:findIn K (.ref C) "__getattr__" = some none
 ca:findIn K (.ref C) "__class__" = some (some (.builtin "object.__class__"))
 cg:specialIn K (.builtin "object.__class__") "__get__" = some (some (.builtin "getset_descriptor.__get__"))
 ct:takesIn K (.builtin "object.__class__")=some true
 mo:mroIn K C (.type "object")=some true
 cl:(clsIn K C).isSome=true
section
variable{P:Program}{w:World}{A:Around}{E:Value->Shared->Prop}{s:Shared}{K:PySem.W.Frag}{e C:Addr}
end
end L2
namespace L2
open PySem PySem.Spec PySem.W PyProof.Rows
theorem ObjOk.there{P:Program}{w:World}{H:Hp}{hp:Heap}{a:Addr}{o:HO}(x:ObjOk P w H hp a o):∃u,hp.get? a=some u:=by
 cases o with
 |lst xs=>obtain⟨_,_,_,_,e⟩:=x;exact⟨_,e⟩
 |tup xs=>obtain⟨_,_,_,ob,e,_⟩:=x;exact⟨_,e⟩
 |dK kvs=>obtain⟨_,_,_,_,o,_,_,e,_⟩:=x;exact⟨_,e⟩
 |dT kvs=>obtain⟨_,_,_,_,o,_,_,e,_⟩:=x;exact⟨_,e⟩
 |set S n=>obtain⟨o,_,_,_,e,_⟩:=x;exact⟨_,e⟩
 |ins C dx fs=>obtain⟨_,_,_,e,_⟩:=x;exact⟨_,e⟩
 |own y=>exact x
 |xd fs=>obtain⟨_,⟨_,_,_,e,_⟩,_⟩:=x;exact⟨_,e⟩
 |rng lo hi=>obtain⟨_,_,_,e⟩:=x;exact⟨_,e⟩
 |frz ob u=>obtain⟨e,_⟩:=x;exact⟨_,e⟩
 |tbl ps=>exact⟨_,x⟩
 |met f y=>exact⟨_,x⟩
 |ext φ=>exact x.2.1
section
variable{X:Cx}{pins:List (Addr×Obj)}{σ:St}{H H':Hp}{s s':Shared}{B hp:Heap}{ea:Addr}{C:Value}
end
section
variable{X:Cx}{E:XK}
end
end L2
namespace L2
open PySem PySem.Spec PySem.W PyProof.Rows
section
variable{X:Cx}{G:Addr}{g n:Str}{i:Nat}{body suite:List Stmt}{b₀:Stmt}{gp hpos pos:Pos}{tb:XK->TS}{ts:Addr->Addr->TS}
end
end L2
namespace DL
open PySem PySem.Spec L2
def spX(cA:Kn)(n:Nat)(m:List D->Option D)(x:List D->Option String):Sp:=λvs H Q E=>spD cA n m vs H Q E \/
 ∃(av:Addr->Prop) (ds:List D) (c:String),(∀a,av a->H a≠none)/\RepL cA av H ds vs/\ds.length=n/\x ds=some c/\∀H',Same H H'->E (.ref (cA.c c)) none H'
def VX(G:Cn)(ow:List Nat)(E:XK)(ts:TS)(χ:Env->Option String):Prop:=
 ∀H0 av A σ H δ,ER G ow H0 av A σ H δ->∀c,χ δ=some c->(∀H',Same H0 H'->E (.ref (G.1.c c)) none H')->∀De:Ends,ts De σ H
section
variable{cA:Kn}{G:Cn}{ow ow1 owB owC owN:List Nat}{E:XK}
end
section
variable{P:Program}{w:World}{K:PySem.W.Frag}{mg:Str->Option Value}{base:Heap}{cA:Kn}
end
end DL
namespace DL
open PySem PySem.Spec L2
def ZkU(K:PySem.W.Frag)(cA:Kn)(v:V)(tab:List (String×Bool)):Prop:=∀c b,tab.lookup c=some b->∃cv,(∀u,RelV v u->u=cv)/\kitOne K (.ref (cA.c c)) cv=some b
inductive IsiEs(K:PySem.W.Frag)(cA:Kn):List V->List (List (String×Bool))->Prop where
 |nil:IsiEs K cA [] []
 |cons {v:V} {t:List (String×Bool)} {vs:List V} {ts:List (List (String×Bool))}:ZkU K cA v t->IsiEs K cA vs ts->IsiEs K cA (v::vs) (t::ts)
section
variable{cA:Kn}{G:Cn}{ow owB owC:List Nat}
theorem ER.none{H0 H:Hp}{av:Addr->Prop}{A:Nat->Option Addr}{σ:L2.St}{δ:Env}{i:Nat}{x:Option V}(R:ER G ow H0 av A σ H δ)(hi:ow.contains i=false)(hn:G.2 i=Option.none):ER G ow H0 av A (σ.set i x) H (δ.set i Option.none):=
 ⟨R.same,R.avd,R.fr,R.inj,R.live,R.dom,R.dom',by rw [List.length_set,List.length_set];exact R.len,R.pin,(λj v' e=>by
   have q:j≠i:=λz=>by rw [z,hn]at e;cases e
   rw [List.getElem?_set_ne (Ne.symm q)];exact R.kept j v' e),λj d e=>by
   have hj:j≠i:=by
    intro z;subst z
    by_cases hl:j<δ.length
    · rw [List.getElem?_set_self hl]at e;cases e
    · rw [List.getElem?_eq_none (by rw [List.length_set];omega)]at e;cases e
   rw [List.getElem?_set_ne (Ne.symm hj)]at e;obtain⟨v,h1,h2⟩:=R.var j d e;exact⟨v,by rw [List.getElem?_set_ne (Ne.symm hj)];exact h1,h2⟩⟩
end
end DL
namespace L2
open PySem PySem.Spec PyProof.Rows
section
variable{X:Cx}
def Zhw(K:PySem.W.Frag):R2:=λx y H Q=>∃l b xs zs,x = .ref l/\y = .ref b/\SqL K H l xs/\SqL K H b zs/\xs.length+zs.length<=sizeLine/\∀p,H p=none->Q (.ref p) (upd H p (.lst (xs++zs)))
theorem Zgg:OpR X (binaryOp .Add) (Zhw X.K):=by
 intro pins s σ H x y v u Q I rx ry h;obtain⟨l,b,xs,zs,rfl,rfl,hH,hB,hz,q⟩:=h;cases rx;cases ry;obtain⟨its,r,pl,_⟩:=I.list hH;obtain⟨its2,r2,pl2,_⟩:=I.list hB;obtain⟨⟨c1,d1,da1,sl1⟩,n1,g1,e1,e2,e3⟩:=pl;obtain⟨⟨c2,d2,da2,sl2⟩,n2,g2,f1,f2,f3⟩:=pl2;dsimp only at e1 e2 e3 f1 f2 f3;subst e1 e2 e3 f1 f2 f3;have hl:=r.length;have hl2:=r2.length;refine concat_meets ⟨_,g1,rfl⟩ ⟨_,g2,rfl⟩ noFill_list_add seq_list_add PySem.F.slot_list_add PySem.F.entry_list_add (PySem.F.args_list_add_2 _ _) (list_addW l b its.toArray its2.toArray n1 n2 none none sl1 sl2 (by rw [List.size_toArray,List.size_toArray];omega)) ⟨g1,g2,?_⟩
 have ea:its.toArray++its2.toArray=(its++its2).toArray:=by simp
 rw [ea];exact⟨.ref _,_,I.lnew (t':=s.toks) (r.append r2) (by rw [List.length_append];omega),rfl,q _ I.fresh⟩
def Zhx(K:PySem.W.Frag):R2:=λx y H Q=>∃l k xs,x = .ref l/\y = .int k/\SqL K H l xs /\ -(2 ^ 63)<=k/\k<2 ^ 63/\xs.length*k.toNat<=sizeLine/\∀p,H p=none->Q (.ref p) (upd H p (.lst (List.replicate k.toNat xs).flatten))
theorem Zgh:OpR X (binaryOp .Mult) (Zhx X.K):=by
 intro pins s σ H x y v u Q I rx ry h;obtain⟨l,k,xs,rfl,rfl,hH,h1,h2,hz,q⟩:=h;cases rx;obtain⟨t,rfl⟩:=ry;obtain⟨its,r,pl,_⟩:=I.list hH;obtain⟨⟨c1,d1,da1,sl1⟩,n1,g1,e1,e2,e3⟩:=pl;dsimp only at e1 e2 e3;subst e1 e2 e3;have hl:=r.length;have hlen:its.toArray.size*k.toNat<=sizeLine:=by rw [List.size_toArray,<-hl];exact hz
 have hcap:¬its.toArray.size*k.toNat>(2 ^ 63-1) / 8:=by
  have:(sizeLine:Nat)<=(2 ^ 63-1) / 8:=by decide
  omega
 have hfit:¬(!Builtin.List.listFitsIndex k)=true:=by
  rw [fitsIndex_both h1 h2];exact Bool.false_ne_true
 have hlong:¬Builtin.List.listTooLong (its.toArray.size*k.toNat)=true:=by
  rw [Zep hlen];exact Bool.false_ne_true
 have hnew:List.foldl (λx1 x2=>x1++x2) #[] (List.replicate (if its.toArray.isEmpty=true then 0 else k.toNat) its.toArray)=(List.replicate k.toNat its).flatten.toArray:=by
  have f0:∀m:Nat,List.foldl (λx1 x2=>x1++x2) #[] (List.replicate m its.toArray)=(List.replicate m its).flatten.toArray:=λm=>by
   have:=ZaU its m [];rw [List.nil_append]at this;exact this
  rw [f0];cases its with
  |nil=>simp
  |cons a r'=>rw [if_neg (by simp)]
 refine wpAny_binaryOp_repeat_ref (T:="list") (U:="int") (by decide) ⟨_,g1,rfl⟩ (λs'=>typeIs_int s' k t) noFill_list_mul F.fills_int_mul F.slot_int_rmul repeat_list F.slot_int_index.lookup
  (call_meets F.slot_int_rmul (typeIs_int s k t) F.entry_int_rmul (F.args_int_rmul_2 _ _) (lm_int_rmul_list_any k t l its.toArray n1 none sl1)
    ⟨g1,rfl,⟨_,g1,rfl⟩,call_meets F.slot_list_mul ⟨_,g1,rfl⟩ F.entry_list_mul (F.args_list_mul_2 _ _) (lm_list_mul_any l its.toArray n1 none sl1 k t hfit hcap hlong) ⟨g1,?_⟩⟩)
 rw [hnew];exact⟨.ref _,_,I.lnew (t':=s.toks) (r.rep k.toNat) (by rw [Zf2,Nat.mul_comm];exact hz),rfl,q _ I.fresh⟩
def Qh(K:PySem.W.Frag):R2:=λx y H Q=>rI0 (λi j => .int (i+j)) x y H Q\/rAddS x y H Q\/Zhw K x y H Q
theorem Zgi:OpR X (binaryOp .Add) (Qh X.K):=op_add.or (op_addS.or Zgg)
theorem Z8{K:PySem.W.Frag}(hK:X.K=K:=by rfl):OpR X (binaryOp .Add) (Qh K):=hK▸Zgi
def Q4(K:PySem.W.Frag):R2:=λx y H Q=>rI DL.CMulW (λi j => .int (i*j)) x y H Q\/DL.rMulS x y H Q\/Zhx K x y H Q
theorem Zgj:OpR X (binaryOp .Mult) (Q4 X.K):=DL.op_mulW.or (DL.op_mulS.or Zgh)
theorem VZ{K:PySem.W.Frag}(hK:X.K=K:=by rfl):OpR X (binaryOp .Mult) (Q4 K):=hK▸Zgj
end
end L2
namespace DL
open PySem PySem.Spec L2
section
variable{cA:Kn}{G:Cn}{ow owB owC:List Nat}
theorem Zc8{i:Addr->Prop}{H:Hp}{p:Addr}{xs:List D}{vs:List V}(hi:∀a,i a->H a≠none)(hp:H p=none)(l:RepL cA i H xs vs):Rep cA i (upd H p (.lst vs)) (.lst xs) (.ref p):=by
 unfold Rep;exact⟨p,vs,rfl,λz=>(hi p z hp).elim,SqL.of ZL,l.same (Yb hp)⟩
def addX:D->D->Option D
 | .lst a,.lst b=>if a.length+b.length<=sizeLine then some (.lst (a++b))else none
 |x,y=>addD x y
theorem Yl:Xm cA (Qh cA.K) addX:=λt t' i H x y vx vy d hi hx hy e Q k=>by
 have old:addD x y=some d->Qh cA.K vx vy H Q:=λe=>by
  rcases(Zh6 (cA:=cA) t t' i H x y vx vy d hi hx hy e Q k)with h|h|h
  · exact .inl h
  · exact .inr (.inl h)
  · obtain⟨l,b,xs,zs,e1,e2,h1,h2,h3,h4⟩:=h
    exact .inr (.inr ⟨l,b,xs,zs,e1,e2,SqL.of h1,SqL.of h2,h3,h4⟩)
 cases x with
 |lst a=>
  cases y with
  |lst b=>
   dsimp only [addX]at e
   by_cases hz:a.length+b.length<=sizeLine
   · rw [if_pos hz]at e
     cases e;obtain⟨a1,vs1,rfl,_,r1,l1⟩:=hx;obtain⟨a2,vs2,rfl,_,r2,l2⟩:=hy;exact .inr (.inr ⟨a1,a2,vs1,vs2,rfl,rfl,r1,r2,by rw [<-l1.length,<-l2.length];exact hz,λp hp=>k _ _ (Yb hp) (Zc8 hi hp (l1.append l2))⟩)
   · rw [if_neg hz]at e;cases e
  |_=>exact old e
 |_=>exact old e
theorem RepL.rep{av:Addr->Prop}{H:Hp}{xs:List D}{vs:List V}(l:RepL cA av H xs vs):∀n:Nat,RepL cA av H (List.replicate n xs).flatten (List.replicate n vs).flatten
 |0 => .nil
 |n+1=>by
  rw [List.replicate_succ,List.replicate_succ,List.flatten_cons,List.flatten_cons];exact l.append (RepL.rep l n)
def mulX:D->D->Option D
 | .int i,.int j=>if CMulW i j then some (.int (i*j))else none
 | .str a,.int n=>if n<2 ^ 63 /\ -(2 ^ 63)<=n/\a.length*n.toNat<=sizeLine then some (.str (UD a n))else none
 | .lst a,.int n=>if n<2 ^ 63 /\ -(2 ^ 63)<=n/\a.length*n.toNat<=sizeLine then some (.lst (List.replicate n.toNat a).flatten)else none
 |_,_=>none
theorem Ue:Xm cA (Q4 cA.K) mulX:=λt t' i H x y vx vy d hi hx hy e Q k=>by
 cases x<;>cases y<;>first|(cases e;done)|skip
 · cases(show vx=_ from hx);cases(show vy=_ from hy)
   rename_i a b;dsimp only [mulX]at e
   by_cases hz:CMulW a b
   · rw [if_pos hz]at e
     cases e;exact .inl ⟨_,_,rfl,rfl,hz,k _ H (Same.refl H) rfl⟩
   · rw [if_neg hz]at e;cases e
 · cases(show vx=_ from hx);cases(show vy=_ from hy)
   rename_i a n;dsimp only [mulX]at e
   by_cases hz:n<2 ^ 63 /\ -(2 ^ 63)<=n/\a.length*n.toNat<=sizeLine
   · rw [if_pos hz]at e
     cases e;exact .inr (.inl ⟨_,_,rfl,rfl,hz,k _ H (Same.refl H) rfl⟩)
   · rw [if_neg hz]at e;cases e
 · rename_i a n
   cases(show vy=_ from hy);dsimp only [mulX]at e
   by_cases hz:n<2 ^ 63 /\ -(2 ^ 63)<=n/\a.length*n.toNat<=sizeLine
   · rw [if_pos hz]at e
     cases e;obtain⟨a1,vs1,rfl,_,r1,l1⟩:=hx;exact .inr (.inr ⟨a1,n,vs1,rfl,rfl,r1,hz.2.1,hz.1,by rw [<-l1.length];exact hz.2.2,λp hp=>k _ _ (Yb hp) (Zc8 hi hp (l1.rep n.toNat))⟩)
   · rw [if_neg hz]at e;cases e
def XS(i:Nat)(κ ε:Env->Option D)(δ:Env):Option Out:=match ε δ with
 |some d=>match Za i δ with
  |some (.lst xs)=>match κ δ with
   |some (.int k)=>match ixN xs.length k with
    |some j=>some (.nx (δ.set i (some (.lst (xs.set j d)))))
    |none=>none
   |_=>none
  |_=>none
 |none=>none
theorem Zbh{te ti:TE}{q:Ql}{ε κ:Env->Option D}(i:Nat)(hi:ow.contains i=true)(h:VE G ow te .cl ε)(hk:VE G ow ti q κ):VS G ow ow owB owC (XH te (Zki (Xr i) ti rSetL)) (XS i κ ε):=λH0 av A σ H δ E o e De k=>by
 unfold XS at e;cases he:ε δ with
 |none=>rw [he]at e;cases e
 |some d=>
  rw [he]at e;dsimp only at e;cases hv:Za i δ with
  |none=>rw [hv]at e;cases e
  |some x=>
   rw [hv]at e;cases x<;>first|(cases e;done)|skip
   rename_i xs;dsimp only at e;cases hq:κ δ with
   |none=>rw [hq]at e;cases e
   |some y=>
    rw [hq]at e;cases y<;>first|(cases e;done)|skip
    rename_i n;dsimp only at e;cases hj:ixN xs.length n with
    |none=>rw [hj]at e;cases e
    |some j=>
     rw [hj]at e;cases e;have hi':i∈ow:=by simpa using hi
     cases hA:A i with
     |none=>exact absurd hA (E.dom' i hi')
     |some a=>
      refine h H0 av A σ H δ E d he _ λv H1 s1 r1 => ?_
      have E1:=E.mono s1;obtain⟨v0,h1,_,h3⟩:=E1.var i _ (YI hv);obtain⟨rfl,vs,q1,q2⟩:=h3 a hA;refine⟨_,h1,hk H0 av A σ H1 δ E1 _ hq _ λy H2 s2 r2 => ?_⟩;have ey:y = .int n:=r2.any;subst ey;have E2:=E1.mono s2;have q1':=s2 _ _ q1;refine⟨a,vs,n,j,rfl,rfl,q1',by rw [<-q2.length];exact hj,k A σ _ (E2.put hA (YI hv) (λb o hb e=>by rw [Zs hb];exact e) (by rw [ZL];exact λz=>by cases z) ⟨_,ZL,?_⟩)⟩
      have ex:∀b o,¬AV av A b->H2 b=some o->upd H2 a (.lst (vs.set j v)) b=some o:=λb o nb e=>by
       rw [Zs λz=>nb (.inr ⟨i,by rw [z];exact hA⟩)];exact e
      exact(((q2.same s2).set ((RepT.r r1).same s2) j)).ext ex
end
end DL
namespace L2
open PySem PySem.W
end L2
namespace DL
open L2
theorem VX.frz{G:Cn}{ow ow1:List Nat}{E:XK}{t:TS}{χ:Env->Option String}(i:Nat)(h:VX G ow1 E t χ)(hn:G.2 i=none)(h1:sub ow1 ow=true)(h2:ow1.contains i=false)(h3:sub ow (i::ow1)=true):VX G ow E t χ:=λH0 av A σ H δ R c e k De=>
 h H0 av _ σ H δ (R.freeze i (Qd h1 h2 h3) hn) c e k De
end DL
namespace L2
open PySem
end L2
namespace L2
open PySem
theorem CompSc.mk3{X:Cx}{scope:Scope}{tn:List Str}(hk:scope.kind = .function)(h:QO [] [] scope.names [] []=true):CompSc X scope tn [] []:=by
 refine CompSc.mk' (osc:=X.env.scope) (oN:=X.N) hk rfl rfl ?_;unfold QO at h ⊢;simp only [Bool.and_eq_true,List.all_eq_true]at h ⊢;obtain⟨⟨⟨⟨h1,h2⟩,h3⟩,h4⟩,h5⟩:=h;refine⟨⟨⟨⟨h1,h2⟩,λy hy => ?_⟩,λy hy => ?_⟩,h5⟩
 · have:=h3 y hy
   simp only [List.lookup_nil]at this;cases hb:(y.2 == NameKind.free)with
   |false=>rfl
   |true=>rw [hb]at this;simp at this
 · cases hy
end L2
namespace L2
open PySem PySem.Spec PySem.W PyProof.Rows
section
variable{X:Cx}{e:Expr}{te:TE}{pos:Pos}
inductive PJ(X:Cx):List Expr->List TE->Prop where
 |nil:PJ X [] []
 |cons {e:Expr} {es:List Expr} {t:TE} {ts:List TE}:PE X e t->PJ X es ts->PJ X (e::es) (t::ts)
end
end L2
namespace DL
open PySem PySem.Spec L2
section
variable{G:Cn}{ow:List Nat}
inductive VJ(G:Cn)(ow:List Nat):List TE->List (Env->Option D)->Prop where
 |nil:VJ G ow [] []
 |cons {t:TE} {a:Env->Option D} {ts:List TE} {as:List (Env->Option D)}:VE G ow t .cl a->VJ G ow ts as->VJ G ow (t::ts) (a::as)
end
end DL
namespace L2
open PySem PySem.Spec PySem.W PyProof.Rows
section
variable{X:Cx}{E:XK}
end
end L2
namespace DL
open PySem PySem.Spec L2
abbrev XTab:=List (String×(Nat×(List D->Option D)×(List D->Option String)))
structure MethOkX(X:Cx)(cA:Kn)(k:Nat)(m:String)(c:String)(n:Nat)(mm:List D->Option D)(xm:List D->Option String):Prop where
 ex:∃f fd ps,Cls X.K (cA.c c)/\Meth X.K (cA.c c) (Str.ofString m) f/\FnOk X.prog X.w X.K X.mg X.base (CX1 X.prog X.w) k f fd ps (spX cA n mm xm)/\Binds X.K fd ps []
def MTOkX(X:Cx)(cA:Kn)(k:Nat)(m:String):XTab->Prop
 | []=>True
 |(c,n,mm,xm)::r=>MethOkX X cA k m c n mm xm/\MTOkX X cA k m r
theorem MTOkX.get{X:Cx}{cA:Kn}{k:Nat}{m:String}:∀{tab:XTab}{c:String}{n:Nat}{mm:List D->Option D}{xm:List D->Option String},MTOkX X cA k m tab->tab.lookup c=some (n,mm,xm)->MethOkX X cA k m c n mm xm
 | [],_,_,_,_,_,h=>by simp at h
 |(c',n',mm',xm')::r,c,n,mm,xm,T,h=>by
  rw [List.lookup_cons]at h;cases hc:c == c' with
  |true=>
   rw [hc]at h;cases h;have:c=c':=eq_of_beq hc;subst this;exact T.1
  |false=>
   rw [hc]at h;exact MTOkX.get T.2 h
section
variable{X:Cx}{cA:Kn}{k:Nat}{m:String}{tab:XTab}{o e:Expr}{es:List Expr}{ta:TE}{t:TA}{pos apos:Pos}{pl:Sem Bool}{E:XK}
end
section
variable{cA:Kn}{G:Cn}{ow ow1 owB owC owN:List Nat}{E:XK}
end
end DL
namespace L2
open PySem PySem.Spec PySem.W PyProof.Rows
theorem Zax:∀(cs:List Nat)(its:List Value),its.length=cs.length->(∀(j:Nat)(v:Value),its[j]? = some v->∃(c:Nat) (u:Tok),cs[j]? = some c/\v=Value.str ⟨#[c]⟩ u)->Vals (cs.map λc=>S [c]) its
 | [],[],_,_ => .nil
 |c::cs,[],h,_=>by simp at h
 | [],v::its,h,_=>by simp at h
 |c::cs,v::its,h,k=>by
  refine .cons ?_ (Zax cs its (by simpa using h) λj v hj=>by simpa using k (j+1) v (by simpa using hj));obtain⟨c',u,e1,e2⟩:=k 0 v rfl;cases e1;exact⟨u,e2⟩
def Zhy(K:PySem.W.Frag):List V->Hp->VK->Prop:=λxs H Q=>Zh4 K xs H Q\/∃cs,xs=[S cs]/\cs.length<=sizeLine/\∀l,H l=none->Q (.ref l) (upd H l (.lst (cs.map λc=>S [c])))
theorem Zay{X:Cx}{K:PySem.W.Frag}(hc:X.calm=true:=by rfl)(hK:X.K=K:=by rfl):YG X (.type "list") (Zhy K):=by
 subst hK;intro pins s σ H xs us Q I r h;rcases h with h|⟨cs,rfl,hz,q⟩
 · exact Zbc pins s σ H xs us Q I r h
 · obtain⟨u,rfl,rx⟩:=Xj r
   obtain⟨t,rfl⟩:=rx;refine call_list_str (I.ok.hd hc) (tx cs) t (λh' tk acc' c' kp e hi => ?_) (by simpa using hz)
   have hv:Vals (cs.map λc=>S [c]) acc'.toList:=Zax cs _ (by simpa using hi.1) λj v hj=>by
    obtain⟨c,u,e1,e2⟩:=hi.2 j v (by simpa using hj);exact⟨c,u,by simpa using e1,e2⟩
   exact⟨.ref s.heap.objs.size,_,I.laid (t':=tk) kp (Nat.le_refl _) (show ObjOk X.prog X.w _ h' _ (.lst _)from⟨by rw [List.length_map];exact hz,acc'.toList,c',hv,e⟩),rfl,q _ (I.hok.fresh (Nat.le_refl _))⟩
end L2
namespace DL
open PySem PySem.Spec L2
def Vo:List D->Option D
 | [.str cs]=>if cs.length<=sizeLine then some (.lst (cs.map λc => .str [c]))else none
 |ds=>Zhr ds
section
variable{G:Cn}{ow:List Nat}
theorem Zaz{cA:Kn}{av:Addr->Prop}{H:Hp}:∀cs:List Nat,RepL cA av H (cs.map λc=>D.str [c]) (cs.map λc=>S [c])
 | [] => .nil
 |c::cs => .cons rfl (Zaz cs)
theorem ZbM{t:TA}{q:Ql}{α:Env->Option (List D)}(hq:q = .cl\/q = .tp)(h:VA G ow t q α):VF G ow (tCB (Zhy G.1.K) t) (eCB Vo α):=λH0 av A σ H δ E d e Q k=>by
 unfold eCB at e;cases he:α δ with
 |none=>rw [he]at e;cases e
 |some ds=>
  rw [he]at e;replace e:Vo ds=some d:=e;unfold Vo at e
  split at e
  · rename_i cs
    by_cases hz:cs.length<=sizeLine
    · rw [if_pos hz]at e
      cases e;refine h H0 av A σ H δ E _ he _ λvs H1 s1 r1 => ?_
      have il:Vm G.1 (AV av A) H1 [.str cs] vs:=by
       rcases hq with rfl|rfl<;>exact r1.il
      obtain⟨v,t,rfl,hx⟩:=il1 il;cases(show v=_ from hx);exact .inr ⟨cs,rfl,hz,λp hp=>k p _ _ H1 s1 hp (Zaz cs) rfl⟩
    · rw [if_neg hz]at e;cases e
  · exact h H0 av A σ H δ E _ he _ fun vs H1 s1 r1 => by
     have il:Vm G.1 (AV av A) H1 ds vs:=by
      rcases hq with rfl|rfl<;>exact r1.il
     refine .inl ?_;unfold Zhr at e
     split at e
     · rename_i xs
       cases e;obtain⟨v,t,rfl,a,ws,rfl,_,rd,l⟩:=il1 il;exact⟨a,ws,rfl,.inl rd,λp hp=>k p ws _ H1 s1 hp l rfl⟩
     · rename_i xs
       cases e;obtain⟨v,t,rfl,a,ws,rfl,_,rd,l⟩:=il1 il;exact⟨a,ws,rfl,.inr (SqT.of rd),λp hp=>k p ws _ H1 s1 hp l rfl⟩
     · cases e
end
end DL
namespace L2
open PySem PySem.Spec PySem.W PyProof.Rows
structure RoomE(k:Nat)(A:Around):Prop where
 dp:A.depth+3*k+5<recursionLimit
 un:A.units+16*k+200<cLine
structure FnOkE(P:Program)(w:World)(K:PySem.W.Frag)(mg:Str->Option Value)(base:Heap)(k:Nat)(f:Addr)(fd:FuncData)(ps:List Str)(sp:List V->Hp->VK->Prop):Prop where
 len:∀vs H Q,sp vs H Q->vs.length=ps.length
 run:∀(A:Around)(outer:List PySem.Env)(s:Shared)(H:Hp)(args:Args)(us:List Value)(vs:List V)(Q:VK),RoomE k A->Env0 P w K mg base A outer s H->BindsTo s fd args (ps.zip us)->Vals vs us->sp vs H Q ->
  codeAny (model P w) A (.call (.ref f) args) (CR CX0 outer P w H s Q E0) s
end L2
namespace DL
open PySem PySem.Spec L2
def Zh9(K:PySem.W.Frag)(cA:Kn)(i:Nat)(mk:Addr->Addr->TE)(tab:List (String×Bool)):Prop:=∀(c:String)(b:Bool)(ea:Addr)(σ:L2.St)(H:Hp)(Q:VK),ExCls K (cA.c c)->tab.lookup c=some b->σ[i]? = some (some (.ref ea))->H ea=some (.ext (Zi6 ea (.ref (cA.c c))))->(∀H',Same H H'->Q (.bl b) H')->mk (cA.c c) ea σ H Q
inductive Items(K:PySem.W.Frag)(cA:Kn)(i:Nat):List (Addr->Addr->TE)->List (List (String×Bool))->Prop where
 |nil:Items K cA i [] []
 |cons {m:Addr->Addr->TE} {t:List (String×Bool)} {ms:List (Addr->Addr->TE)} {ts:List (List (String×Bool))}:Zh9 K cA i m t->Items K cA i ms ts->Items K cA i (m::ms) (t::ts)
section
variable{cA:Kn}{G:Cn}{ow owB owC:List Nat}
end
end DL
namespace L2
open PySem PySem.Spec PyProof.Rows
section
variable{X:Cx}{elts:List Expr}{x1:Nat}{tpos:Pos}
end
end L2
namespace DL
open PySem PySem.Spec L2
section
variable{cA:Kn}{G:Cn}{ow:List Nat}
end
end DL
namespace DL
open PySem PySem.Spec L2
def mat(rows:List (List D)):D := .lst (rows.map D.lst)
structure Mx(H:Hp)(a:Addr)(bs:List Addr)(rows:List (List D)):Prop where
 top:H a=some (.lst (bs.map V.ref))
 len:bs.length=rows.length
 nd:bs.Nodup
 na:a∉bs
 row:∀(k:Nat)(b:Addr)(r:List D),bs[k]? = some b->rows[k]? = some r->H b=some (.lst (r.map val))
 sc:∀r∈rows,r.all Zx=true
section
variable{H H':Hp}{a:Addr}{bs:List Addr}{rows:List (List D)}
theorem Mx.mem(M:Mx H a bs rows){b:Addr}(h:b∈bs):∃r∈rows,H b=some (.lst (r.map val)):=by
 obtain⟨k,hk,e⟩:=List.mem_iff_getElem.mp h;have hk2:k<rows.length:=by rw [<-M.len];exact hk
 exact⟨rows[k],List.getElem_mem hk2,M.row k b _ (by rw [List.getElem?_eq_getElem hk,e]) (List.getElem?_eq_getElem hk2)⟩
theorem Mx.there(M:Mx H a bs rows){x:Addr}(h:x∈a::bs):∃vs,H x=some (.lst vs):=by
 rcases List.mem_cons.mp h with rfl|h
 · exact⟨_,M.top⟩
 · obtain⟨r,_,e⟩:=M.mem h
   exact⟨_,e⟩
theorem Mx.mono(M:Mx H a bs rows)(k:Same H H'):Mx H' a bs rows:=⟨k _ _ M.top,M.len,M.nd,M.na,λn b r h1 h2=>k _ _ (M.row n b r h1 h2),M.sc⟩
theorem Mx.rep{cA:Kn}{av:Addr->Prop}(M:Mx H a bs rows)(hn:∀x∈a::bs,¬av x):Rep cA av H (mat rows) (.ref a):=by
 have go:∀(bs:List Addr)(rows:List (List D)),bs.length=rows.length->(∀x∈bs,¬av x)->(∀(k:Nat)(b:Addr)(r:List D),bs[k]? = some b->rows[k]? = some r->H b=some (.lst (r.map val)))->(∀r∈rows,r.all Zx=true)->RepL cA av H (rows.map D.lst) (bs.map V.ref):=by
  intro bs
  induction bs with
  |nil=>
   intro rows hl _ _ _;cases rows with
   |nil=>exact .nil
   |cons _ _=>simp at hl
  |cons b bs ih=>
   intro rows hl hn hr hs;cases rows with
   |nil=>simp at hl
   |cons r rows=>
    refine .cons ?_ (ih rows (by simpa using hl) (λx hx=>hn x (List.mem_cons_of_mem _ hx)) (λk b r h1 h2=>hr (k+1) b r (by simpa using h1) (by simpa using h2)) λr hr=>hs r (List.mem_cons_of_mem _ hr));unfold Rep;exact⟨b,r.map val,rfl,λz=>(hn b List.mem_cons_self z).elim,SqL.of (hr 0 b r rfl rfl),.of_vals (hs r List.mem_cons_self)⟩
 unfold mat Rep;exact⟨a,bs.map V.ref,rfl,λz=>(hn a List.mem_cons_self z).elim,SqL.of M.top,go bs rows M.len (λx hx=>hn x (List.mem_cons_of_mem _ hx)) M.row M.sc⟩
end
open Classical in
noncomputable def ovl(H0 H:Hp)(F:List Addr):Hp:=λx=>if x∈F then H x else H0 x
theorem Uf{H0 H:Hp}{F:List Addr}{x:Addr}(h:x∈F):ovl H0 H F x=H x:=if_pos h
theorem XB{H0 H:Hp}{F:List Addr}{x:Addr}(h:x∉F):ovl H0 H F x=H0 x:=if_neg h
abbrev Cn.keep(G:Cn)(i:Nat)(v:V):Cn:=⟨G.1,λj=>if j=i then some (.inr v)else G.2 j⟩
abbrev avF(av:Addr->Prop)(F:List Addr):Addr->Prop:=λx=>av x\/x∈F
def PinOk(G:Cn)(i:Nat)(σ:L2.St):Prop:=∀z,G.2 i=some z->∃v,z = .inr v/\σ[i]? = some (some v)
theorem PinOk.none{G:Cn}{i:Nat}{σ:L2.St}(h:G.2 i=Option.none):PinOk G i σ:=λz e=>by rw [h]at e;cases e
theorem PinOk.set{G:Cn}{i k:Nat}{σ:L2.St}{x:Option V}(h:PinOk G i σ)(hk:k≠i):PinOk G i (σ.set k x):=λz e=>by
 obtain⟨v,h1,h2⟩:=h z e;exact⟨v,h1,by rw [List.getElem?_set_ne hk];exact h2⟩
structure MR(G:Cn)(ow:List Nat)(i:Nat)(H0:Hp)(av:Addr->Prop)(A:Nat->Option Addr)(σ:L2.St)(H:Hp)(δ:Env):Prop where
 ni:i∉ow
 nn:PinOk G i σ
 avd:∀x,av x->H0 x≠none
 ex:∃a bs rows,δ[i]? = some (some (mat rows))/\Mx H a bs rows/\(∀x∈a::bs,H0 x=none)/\ER (G.keep i (.ref a)) ow (ovl H0 H (a::bs)) (avF av (a::bs)) A σ H (δ.set i none)
section
variable{cA:Kn}{G:Cn}{ow owN owB owC ow1:List Nat}{i:Nat}{H0 H H':Hp}{av:Addr->Prop}{A:Nat->Option Addr}{σ:L2.St}{δ:Env}
theorem Vp{j:Nat}{v:V}(h:j≠i):(G.keep i v).2 j=G.2 j:=if_neg h
theorem Zbi{v:V}:(G.keep i v).2 i=some (.inr v):=if_pos rfl
theorem ZeG{a:Addr}{bs:List Addr}{rows:List (List D)}(M:Mx H a bs rows)(k:Same H H'):ovl H0 H' (a::bs)=ovl H0 H (a::bs):=by
 funext x
 by_cases h:x∈a::bs
 · rw [Uf h,Uf h]
   obtain⟨vs,q⟩:=M.there h;rw [q,k _ _ q]
 · rw [XB h,XB h]
theorem MR.set{k:Nat}{d:D}(R:MR G ow i H0 av A σ H δ)(hs:Zx d=true)(hk:k≠i)(hw:∀j,j∈owN ↔ j∈ow/\j≠k)(hn:G.2 k=none):MR G owN i H0 av (λj=>if j=k then none else A j) (σ.set k (some (val d))) H (δ.set k (some d)):=by
 obtain⟨a,bs,rows,hd,M,h0,E⟩:=R.ex;refine⟨λz=>R.ni ((hw i).mp z).1,R.nn.set hk,R.avd,a,bs,rows,by rw [List.getElem?_set_ne hk];exact hd,M,h0,?_⟩;rw [List.set_comm _ _ hk];exact E.set (.of_val hs) hw (by rw [Vp hk];exact hn)
end
end DL
namespace DL
open PySem PySem.Spec L2
section
variable{cA:Kn}{G:Cn}{ow owN owB owC ow1:List Nat}{i:Nat}
end
end DL
namespace DL
open PySem PySem.Spec L2
section
variable{H:Hp}{a b:Addr}{bs:List Addr}{rows:List (List D)}{j:Nat}{r r':List D}
theorem Mx.at(M:Mx H a bs rows)(hr:rows[j]? = some r):∃b,bs[j]? = some b/\H b=some (.lst (r.map val)):=by
 have hjl:j<bs.length:=by rw [M.len];exact(List.getElem?_eq_some_iff.mp hr).1
 exact⟨bs[j],List.getElem?_eq_getElem hjl,M.row j _ r (List.getElem?_eq_getElem hjl) hr⟩
end
section
variable{cA:Kn}{G:Cn}{ow owN owB owC ow1:List Nat}{i:Nat}
theorem Zgk{ε:Env->Option D}{δ:Env}{d:D}(h:UC ε δ=some d):Zx d=true:=by
 unfold UC at h;cases hx:ε δ with
 |none=>rw [hx]at h;cases h
 |some d'=>
  rw [hx]at h
  by_cases hs:Zx d'=true
  · have e':d'=d:=by simpa [hs]using h
    rw [<-e'];exact hs
  · simp [hs]at h
end
end DL
namespace DL
open PySem PySem.Spec L2
def VFM(G:Cn)(ow:List Nat)(te:TE)(ε:Env->Option D):Prop:=
 ∀H0 av A σ H δ,ER G ow H0 av A σ H δ->∀d,ε δ=some d->∀Q:VK,(∀a bs rows H',Same H H'->(∀x∈a::bs,H x=none)->Mx H' a bs rows->d=mat rows->Q (.ref a) H')->te σ H Q
section
variable{cA:Kn}{G:Cn}{ow owN owB owC ow1:List Nat}{i:Nat}
theorem VFM.cl{te:TE}{ε:Env->Option D}(h:VFM G ow te ε):VE G ow te .cl ε:=λH0 av A σ H δ E d e Q k=>
 h H0 av A σ H δ E d e Q λa bs rows H' s hf M hd=>by
  subst hd;exact k _ H' s (M.rep λx hx z=>E.avl x z (hf x hx)).t
def Qi:D->D->Option D
 | .lst a,.int n=>mulX (.lst a) (.int n)
 |_,_=>none
theorem Zia{ta tb:TE}{q:Ql}{a b:Env->Option D}(ha:VE G ow ta .cl a)(hb:VE G ow tb q b):VF G ow (tOp (Q4 G.1.K) ta tb) (eOp Qi a b):=λH0 av A σ H δ E d e Q k=>by
 obtain⟨x,y,ex,ey,ed⟩:=V9 e;unfold Qi at ed
 split at ed
 · rename_i xs n
   unfold mulX at ed;dsimp only at ed
   by_cases hz:n<2 ^ 63 /\ -(2 ^ 63)<=n/\xs.length*n.toNat<=sizeLine
   · rw [if_pos hz]at ed
     cases ed;refine ha H0 av A σ H δ E _ ex _ λv H1 s1 r1=>hb H0 av A σ H1 δ (E.mono s1) _ ey _ λw H2 s2 r2 => ?_
     have ew:w = .int n:=r2.any;subst ew;obtain⟨a1,vs1,rfl,na,rd,l1⟩:=r1;refine .inr (.inr ⟨a1,n,vs1,rfl,rfl,s2.seq rd,hz.2.1,hz.1,by rw [<-l1.length];exact hz.2.2,λp hp=>k p _ _ H2 (s1.trans s2) hp ((l1.same s2).rep n.toNat) rfl⟩)
   · rw [if_neg hz]at ed;cases ed
 · cases ed
end
section
variable{P:Program}{w:World}{K:PySem.W.Frag}{mg:Str->Option Value}{base:Heap}{cA:Kn}
end
end DL
namespace DL
open PySem PySem.Spec L2
section
variable{cA:Kn}{G:Cn}{ow:List Nat}
structure RowsAt(H0 H:Hp)(bs:List Addr)(rows:List (List D)):Prop where
 len:bs.length=rows.length
 nd:bs.Nodup
 row:∀(k:Nat)(b:Addr)(r:List D),bs[k]? = some b->rows[k]? = some r->H b=some (.lst (r.map val))
 fr:∀b∈bs,H0 b=none
 sc:∀r∈rows,r.all Zx=true
theorem RowsAt.same{H0 H H':Hp}{bs:List Addr}{rows:List (List D)}(R:RowsAt H0 H bs rows)(s:Same H H'):RowsAt H0 H' bs rows:=⟨R.len,R.nd,λk b r h1 h2=>s _ _ (R.row k b r h1 h2),R.fr,R.sc⟩
end
end DL
namespace DL
open PySem PySem.Spec L2
section
variable{cA:Kn}{G:Cn}{ow owN owB owC ow1:List Nat}{i:Nat}
open Classical in
def Q5(i k:Nat)(δ:Env):Option Out:=match Za k δ with
 |some d=>some (.nx ((δ.set k none).set i (some d)))
 |none=>none
theorem Zgl(i k:Nat)(hik:i≠k)(hk:ow.contains k=true)(hn:G.2 i=none)(hnk:G.2 k=none)(h1:sub owN (i::ow)=true)(h2:owN.contains k=false)(h3:owN.contains i=true)(h4:sub ow (k::owN)=true):VS G ow owN owB owC (XH (Xr k) (XG i)) (Q5 i k):=λH0 av A σ H δ E o e De kk=>by
 unfold Q5 at e;cases hv:Za k δ with
 |none=>rw [hv]at e;cases e
 |some d=>
  rw [hv]at e;cases e;have hk':k∈ow:=by simpa using hk
  have hkN:k∉owN:=by simpa using h2
  have hiN:i∈owN:=by simpa using h3
  cases hA:A k with
  |none=>exact absurd hA (E.dom' k hk')
  |some p=>
   have hkd:=YI hv;obtain⟨v,g1,_,g3⟩:=E.var k d hkd;obtain⟨rfl,ho⟩:=g3 p hA;refine⟨_,g1,kk (λj=>if j=i then some p else if j=k then none else A j) _ H ?_⟩
   have less:∀b,AV av (λj=>if j=i then some p else if j=k then none else A j) b->AV av A b:=λb z=>by
    rcases z with z|⟨j,z⟩
    · exact .inl z
    · by_cases q1:j=i
      · simp [q1]at z;subst z;exact .inr ⟨k,hA⟩
      · by_cases q2:j=k
        · simp [q1,q2,Ne.symm hik]at z
        · simp [q1,q2]at z;exact .inr ⟨j,z⟩
   have oj:∀j x,j≠i->(if j=i then some p else if j=k then none else A j)=some x->j≠k/\A j=some x:=λj x q1 z=>by
    by_cases q2:j=k
    · simp [q1,q2,Ne.symm hik]at z
    · simp [q1,q2]at z;exact⟨q2,z⟩
   have lens:∀{w:D},((δ.set k none).set i (some w)).length=δ.length:=λ{w}=>by rw [List.length_set,List.length_set]
   refine⟨E.same,E.avd,λj x e => ?_,λj l x e1 e2 => ?_,λj x e => ?_,λj e => ?_,λj hj => ?_,by rw [List.length_set,lens];exact E.len,λj x e => ?_,λj w e => ?_,λj d' e => ?_⟩
   · by_cases q:j=i
     · simp [q]at e;subst e;exact E.fr k p hA
     · exact E.fr j x (oj j x q e).2
   · by_cases q1:j=i
     · by_cases q2:l=i
       · rw [q1,q2]
       · simp [q1]at e1
         subst e1;obtain⟨n1,n2⟩:=oj l p q2 e2;exact absurd (E.inj l k p n2 hA) n1
     · obtain⟨n1,n2⟩:=oj j x q1 e1
       by_cases q2:l=i
       · simp [q2]at e2
         subst e2;exact absurd (E.inj j k p n2 hA) n1
       · exact E.inj j l x n2 (oj l x q2 e2).2
   · by_cases q:j=i
     · simp [q]at e;subst e;exact E.live k p hA
     · exact E.live j x (oj j x q e).2
   · by_cases q:j=i
     · rw [q];exact hiN
     · have e':(if j=i then some p else if j=k then none else A j)≠none:=e
       cases hz:(if j=i then some p else if j=k then none else A j)with
       |none=>exact absurd hz e'
       |some x=>
        obtain⟨n1,n2⟩:=oj j x q hz;rcases List.mem_cons.mp (UH h4 j (E.dom j (by rw [n2];exact λz=>by cases z)))with z|z
        · exact absurd z n1
        · exact z
   · by_cases q:j=i
     · simp [q]
     · have hjk:j≠k:=λz=>hkN (z▸hj)
       simp [q,hjk];rcases List.mem_cons.mp (UH h1 j hj)with z|z
       · exact absurd z q
       · exact E.dom' j z
   · have q:j≠i:=λz=>by rw [z,hn]at e;cases e
     have q2:j≠k:=λz=>by rw [z,hnk]at e;cases e
     simp only [q,q2,if_false];exact E.pin j x e
   · have q:j≠i:=λz=>by rw [z,hn]at e;cases e
     rw [List.getElem?_set_ne (Ne.symm q)];exact E.kept j w e
   · by_cases q:j=i
     · subst q
       have hil:j<δ.length:=by
        by_cases hl:j<δ.length
        · exact hl
        · rw [List.getElem?_eq_none (by rw [lens];omega)]at e;cases e
       rw [List.getElem?_set_self (by rw [List.length_set];exact hil)]at e;cases e;refine⟨.ref p,List.getElem?_set_self (by rw [E.len];exact hil),λz=>by simp at z,λx z => ?_⟩;simp at z;subst z;refine⟨rfl,?_⟩;cases d with
       |lst xs=>obtain⟨vs,q1,q2⟩:=ho;exact⟨vs,q1,q2.av λb z => .inl (less b z)⟩
       |obj c ks xs=>obtain⟨dx,vs,q1,q0,q2⟩:=ho;exact⟨dx,vs,q1,q0,q2.av λb z => .inl (less b z)⟩
       |dct ks xs=>obtain⟨vs,q1,q0,q2⟩:=ho;exact⟨vs,q1,q0,q2.av λb z => .inl (less b z)⟩
       |dtt ks xs=>obtain⟨vs,q1,q0,q2⟩:=ho;exact⟨vs,q1,q0,q2.av λb z => .inl (less b z)⟩
       |_=>exact ho
     · rw [List.getElem?_set_ne (Ne.symm q)]at e
       have q2:j≠k:=λz=>by
        rw [z]at e
        by_cases hl:k<δ.length
        · rw [List.getElem?_set_self hl]at e;cases e
        · rw [List.getElem?_eq_none (by rw [List.length_set];omega)]at e;cases e
       rw [List.getElem?_set_ne (Ne.symm q2)]at e;obtain⟨v',p1,p2,p3⟩:=E.var j d' e;refine⟨v',by rw [List.getElem?_set_ne (Ne.symm q)];exact p1,λz => ?_,λx z => ?_⟩
       · simp [q,q2]at z
         exact(p2 z).av λb z => .inl (less b z)
       · obtain⟨n1,n2⟩:=oj j x q z
         obtain⟨r1,r2⟩:=p3 x n2;refine⟨r1,?_⟩;cases d' with
         |lst xs=>obtain⟨vs,q1,q2⟩:=r2;exact⟨vs,q1,q2.av λb z => .inl (less b z)⟩
         |obj c ks xs=>obtain⟨dx,vs,q1,q0,q2⟩:=r2;exact⟨dx,vs,q1,q0,q2.av λb z => .inl (less b z)⟩
         |dct ks xs=>obtain⟨vs,q1,q0,q2⟩:=r2;exact⟨vs,q1,q0,q2.av λb z => .inl (less b z)⟩
         |dtt ks xs=>obtain⟨vs,q1,q0,q2⟩:=r2;exact⟨vs,q1,q0,q2.av λb z => .inl (less b z)⟩
         |_=>exact r2
end
section
variable{P:Program}{w:World}{K:PySem.W.Frag}{mg:Str->Option Value}{base:Heap}{cA:Kn}
end
end DL
namespace L2
open PySem PySem.Spec PySem.W PyProof.Rows
end L2
namespace DL
open PySem PySem.Spec L2
section
variable{cA:Kn}{G:Cn}{ow owN owB owC ow1:List Nat}{i:Nat}
theorem MR.own{H0 H:Hp}{av:Addr->Prop}{A:Nat->Option Addr}{σ:L2.St}{δ:Env}{k:Nat}{xs:List D}{p:Addr}(R:MR G ow i H0 av A σ H δ)(hs:xs.all Zx=true)(hp:H p=none)(hk:k≠i)(hw:∀j,j∈ow1 ↔ j∈ow\/j=k)(hn:G.2 k=none):MR G ow1 i H0 av (λj=>if j=k then some p else A j) (σ.set k (some (.ref p))) (upd H p (.lst (xs.map val))) (δ.set k (some (.lst xs))):=by
 obtain⟨a,bs,rows,hd,M,h0,E⟩:=R.ex;refine⟨λz=>((hw i).mp z).elim R.ni λz=>hk z.symm,R.nn.set hk,R.avd,a,bs,rows,by rw [List.getElem?_set_ne hk];exact hd,M.mono (Yb hp),h0,?_⟩;rw [List.set_comm _ _ hk,ZeG M (Yb hp)];exact E.own hp (.of_vals hs) hw (by rw [Vp hk];exact hn)
end
end DL
namespace DL
open PySem PySem.Spec L2
def Xf:D->Option Key
 | .int i=>some (.inl i)
 | .str cs=>some (.inr (tx cs))
 |_=>none
theorem Qj{d:D}{k:Key}(h:Xf d=some k):val d=kV k/\Zx d=true:=by
 cases d<;>first|(cases h;done)|(cases h;exact⟨rfl,rfl⟩)
def Ug{α:Type}(k:Key):List Key->List α->Option α
 |k0::ks,x::xs=>if k0=k then some x else Ug k ks xs
 |_,_=>none
def X4{α:Type}(k:Key)(d:α):List Key->List α->List α
 |k0::ks,x::xs=>(if k0=k then d else x)::X4 k d ks xs
 |_,xs=>xs
def XC(k:Key):List Key->Bool
 | []=>false
 |k0::ks=>decide (k0=k)||XC k ks
def UL(ks:List Key)(xs:List D)(k:Key)(d:D):D:=if XC k ks=true then .dct ks (X4 k d ks xs)else .dct (ks++[k]) (xs++[d])
theorem ZbN{α:Type}(k:Key)(d:α):∀(ks:List Key)(xs:List α),(X4 k d ks xs).length=xs.length
 | [],_=>rfl
 |_::_,[]=>rfl
 |k0::ks,x::xs=>by rw [X4,List.length_cons,List.length_cons,ZbN k d ks xs]
theorem Zbj(k:Key):∀(ks:List Key)(vs:List V),ks.length=vs.length->((ks.zip vs).any λkv=>decide (kv.1=k))=XC k ks
 | [],_,_=>rfl
 |k0::ks,[],h=>by simp at h
 |k0::ks,v::vs,h=>by
  rw [List.zip_cons_cons,List.any_cons,Zbj k ks vs (by simpa using h)];rfl
theorem ZeH(k:Key){ks:List Key}{vs:List V}(h:ks.length=vs.length):(Y9 (ks.zip vs) k).isSome=XC k ks:=by rw [<-J5,Zbj k ks vs h]
theorem Zc9(k:Key)(v:V):∀(ks:List Key)(vs:List V),ks.length=vs.length->(ks.zip vs).map (λkv=>if kv.1=k then(kv.1,v)else kv)=ks.zip (X4 k v ks vs)
 | [],_,_=>by simp
 |k0::ks,[],h=>by simp at h
 |k0::ks,x::vs,h=>by
  rw [List.zip_cons_cons,List.map_cons,X4,List.zip_cons_cons,Zc9 k v ks vs (by simpa using h)]
  by_cases e:k0=k
  · simp [e]
  · simp [e]
section
variable{cA:Kn}{av:Addr->Prop}{H:Hp}
theorem ZbO(k:Key):∀{ks:List Key}{xs:List D}{vs:List V}{x:D},RepL cA av H xs vs->Ug k ks xs=some x->∃v,Y9 (ks.zip vs) k=some v/\Rep cA av H x v
 | [],xs,vs,x,_,h=>by cases h
 |k0::ks,[],vs,x,_,h=>by cases h
 |k0::ks,y::xs,vs,x,l,h=>by
  obtain⟨v,r,rfl,h1,h2⟩:=l.uncons;rw [List.zip_cons_cons];unfold Ug at h
  by_cases e:k0=k
  · rw [if_pos e]at h
    cases h;exact⟨v,QS e,h1⟩
  · rw [if_neg e]at h
    obtain⟨u,h3,h4⟩:=ZbO k h2 h;exact⟨u,(QT e).trans h3,h4⟩
theorem ZbP(k:Key){d:D}{v:V}(hd:Rep cA av H d v):∀(ks:List Key){xs:List D}{vs:List V},RepL cA av H xs vs->RepL cA av H (X4 k d ks xs) (X4 k v ks vs)
 | [],xs,vs,l=>l
 |k0::ks,[],vs,l=>by rw [l.nil_of];exact .nil
 |k0::ks,y::xs,vs,l=>by
  obtain⟨u,r,rfl,h1,h2⟩:=l.uncons;rw [X4,X4];refine .cons ?_ (ZbP k hd ks h2)
  by_cases e:k0=k
  · rw [if_pos e,if_pos e];exact hd
  · rw [if_neg e,if_neg e];exact h1
theorem Zgm(k:Key){d:D}{v:V}{ks:List Key}{xs:List D}{vs:List V}{a:Addr}{H':Hp}(hks:ks.length=xs.length)(l:RepL cA av H' xs vs)(hd:Rep cA av H' d v)(e:H' a=some (.dK (Yq (ks.zip vs) k v))):Own cA av H' (UL ks xs k d) a:=by
 have hl:ks.length=vs.length:=by rw [hks,l.length]
 unfold Yq at e;rw [Zbj k ks vs hl]at e;unfold UL
 by_cases h:XC k ks=true
 · rw [if_pos h,Zc9 k v ks vs hl]at e
   rw [if_pos h];exact⟨_,e,by rw [ZbN];exact hks,ZbP k hd ks l⟩
 · rw [if_neg h]at e
   rw [if_neg h];refine⟨vs++[v],?_,by rw [List.length_append,List.length_append,hks];rfl,l.append (.cons hd .nil)⟩;rw [e,List.zip_append hl];rfl
end
section
variable{G:Cn}{ow owN owB owC ow1:List Nat}{H0 H:Hp}{av:Addr->Prop}{A:Nat->Option Addr}{σ:L2.St}{δ:Env}
theorem Zgn{i:Nat}{ks:List Key}{xs:List D}{vs:List V}{p:Addr}(E:ER G ow H0 av A σ H δ)(hp:H p=none)(hks:ks.length=xs.length)(l:RepL G.1 (AV av A) H xs vs)(hw:∀j,j∈ow1 ↔ j∈ow\/j=i)(hn:G.2 i=none) :
 ER G ow1 H0 av (λj=>if j=i then some p else A j) (σ.set i (some (.ref p))) (upd H p (.dK (ks.zip vs))) (δ.set i (some (.dct ks xs))):=by
 have hs:Same H (upd H p (.dK (ks.zip vs))):=Yb hp
 have less:∀b,AV av (λj=>if j=i then some p else A j) b->AV av A b\/H b=none:=λb z=>by
  rcases z with z|⟨j,z⟩
  · exact .inl (.inl z)
  · by_cases e:j=i
    · simp [e]at z;subst z;exact .inr hp
    · simp [e]at z;exact .inl (.inr ⟨j,z⟩)
 have np:∀j a,A j=some a->a≠p:=λj a e z=>by subst z;exact E.live j a e hp
 have h0:H0 p=none:=by
  cases q:H0 p with
  |none=>rfl
  |some o=>rw [E.same p o q]at hp;cases hp
 refine⟨E.same.trans hs,E.avd,λj a e => ?_,λj k a e1 e2 => ?_,λj a e => ?_,λj e => ?_,λj hj => ?_,by simp [E.len],λj a e=>(by
  have q:j≠i:=λz=>by rw [z,hn]at e;cases e
  simp only [q,if_false];exact E.pin j a e),(λj v' e=>by
  have q:j≠i:=λz=>by rw [z,hn]at e;cases e
  rw [List.getElem?_set_ne (Ne.symm q)];exact E.kept j v' e),λj d' e => ?_⟩
 · by_cases q:j=i
   · simp [q]at e;subst e;exact h0
   · simp [q]at e;exact E.fr j a e
 · by_cases q:j=i
   · by_cases q2:k=i
     · rw [q,q2]
     · simp [q]at e1;simp [q2]at e2
       exact absurd e1.symm (np k a e2)
   · by_cases q2:k=i
     · simp [q]at e1;simp [q2]at e2
       exact absurd e2.symm (np j a e1)
     · simp [q]at e1;simp [q2]at e2;exact E.inj j k a e1 e2
 · by_cases q:j=i
   · simp [q]at e;subst e;rw [ZL];exact λz=>by cases z
   · simp [q]at e
     rw [Zs (np j a e)];exact E.live j a e
 · by_cases q:j=i
   · exact(hw j).mpr (.inr q)
   · simp [q]at e;exact(hw j).mpr (.inl (E.dom j e))
 · by_cases q:j=i
   · simp [q]
   · simp [q]
     exact E.dom' j (((hw j).mp hj).resolve_right q)
 · rcases UI e with⟨rfl,rfl,hl⟩|⟨q,e'⟩
   · refine⟨.ref p,?_,λz=>by simp at z,λa z => ?_⟩
     · rw [List.getElem?_set_self (by rw [E.len];exact hl)]
     · simp at z
       subst z;exact⟨rfl,vs,ZL,hks,(l.av less).same hs⟩
   · obtain⟨v',h1,h2,h3⟩:=E.var j d' e'
     refine⟨v',by rw [List.getElem?_set_ne (Ne.symm q)];exact h1,λz => ?_,λa z => ?_⟩
     · simp [q]at z
       exact((h2 z).av less).same hs
     · simp [q]at z
       obtain⟨r1,r2⟩:=h3 a z;refine⟨r1,?_⟩;cases d' with
       |lst xs=>obtain⟨vs',q1,q2⟩:=r2;exact⟨vs',hs _ _ q1,(q2.av less).same hs⟩
       |obj c ks xs=>obtain⟨dx,vs',q1,q0,q2⟩:=r2;exact⟨dx,vs',hs _ _ q1,q0,(q2.av less).same hs⟩
       |dct ks xs=>obtain⟨vs',q1,q0,q2⟩:=r2;exact⟨vs',hs _ _ q1,q0,(q2.av less).same hs⟩
       |dtt ks xs=>obtain⟨vs',q1,q0,q2⟩:=r2;exact⟨vs',hs _ _ q1,q0,(q2.av less).same hs⟩
       |_=>exact r2
def VFD(G:Cn)(ow:List Nat)(te:TE)(ε:Env->Option D):Prop:=
 ∀H0 av A σ H δ,ER G ow H0 av A σ H δ->∀d,ε δ=some d->∀Q:VK,(∀p ks vs xs H1,Same H H1->H1 p=none->ks.length=xs.length->RepL G.1 (AV av A) H1 xs vs->d = .dct ks xs->Q (.ref p) (upd H1 p (.dK (ks.zip vs))))->te σ H Q
theorem Zgo{te:TE}{ε:Env->Option D}(i:Nat)(h:VFD G ow te ε)(hn:G.2 i=none)(h1:sub owN (i::ow)=true)(h2:owN.contains i=true)(h3:sub ow owN=true):VS G ow owN owB owC (XH te (XG i)) (Zg i ε):=λH0 av A σ H δ E o e De k=>by
 unfold Zg at e;cases he:ε δ with
 |none=>rw [he]at e;cases e
 |some d=>
  rw [he]at e;cases e;refine h H0 av A σ H δ E d he _ λp ks vs xs H1 s hp hk l hd => ?_
  subst hd;exact k _ _ _ (Zgn (E.mono s) hp hk l (ZaC h1 h2 h3) hn)
def inK(neg:Bool):D->D->Option D
 |x,.dct ks _=>match Xf x with
  |some k=>some (.bl (neg != XC k ks))
  |none=>none
 |_,_=>none
theorem ZeI{neg:Bool}{x y d:D}(h:inK neg x y=some d):∃ks xs k,y = .dct ks xs/\Xf x=some k/\d = .bl (neg != XC k ks):=by
 unfold inK at h
 split at h
 · rename_i ks xs
   cases hk:Xf x with
   |none=>rw [hk]at h;cases h
   |some k=>rw [hk]at h;exact⟨ks,xs,k,rfl,rfl,(Option.some.inj h).symm⟩
 · cases h
theorem Zd0{ta tb:TE}{qa qb:Ql}{a b:Env->Option D}(ha:VE G ow ta qa a)(hb:VE G ow tb qb b):VE G ow (ZcW ta tb) .cl (eOp (inK true) a b):=λH0 av A σ H δ E d e Q k=>by
 obtain⟨x,y,ex,ey,ed⟩:=V9 e;obtain⟨ks,xs,kk,rfl,hk,rfl⟩:=ZeI ed;obtain⟨hv,hs⟩:=Qj hk;refine ha H0 av A σ H δ E _ ex _ λv H1 s1 r1=>hb H0 av A σ H1 δ (E.mono s1) _ ey _ λw H2 s2 r2 => ?_
 have e1:v=kV kk:=(r1.any.val hs).trans hv;obtain⟨p,vs,rfl,_,rd,hl,l⟩:=r2.tp;refine⟨p,_,rfl,e1▸DGet.k rd,?_⟩;rw [ZeH kk (hl.trans l.length)];have:=k (.bl (true != XC kk ks)) H2 (s1.trans s2) blq;rw [Bool.true_bne]at this;exact this
def Vq:D->D->Option D
 | .dct ks xs,x=>match Xf x with
  |some k=>Ug k ks xs
  |none=>none
 |_,_=>none
theorem Zd1{x y d:D}(h:Vq y x=some d):∃ks xs k,y = .dct ks xs/\Xf x=some k/\Ug k ks xs=some d:=by
 unfold Vq at h
 split at h
 · rename_i ks xs
   cases hk:Xf x with
   |none=>rw [hk]at h;cases h
   |some k=>rw [hk]at h;exact⟨ks,xs,k,rfl,rfl,h⟩
 · cases h
theorem Zda{ta tb:TE}{qa qb:Ql}{a b:Env->Option D}(hq:qa = .cl\/qa = .tp)(ha:VE G ow ta qa a)(hb:VE G ow tb qb b):VE G ow (Zhm ta tb) .cl (eOp Vq a b):=λH0 av A σ H δ E d e Q k=>by
 obtain⟨y,x,ey,ex,ed⟩:=V9 e;obtain⟨ks,xs,kk,rfl,hk,hlk⟩:=Zd1 ed;obtain⟨hv,hs⟩:=Qj hk;refine ha H0 av A σ H δ E _ ey _ λv H1 s1 r1=>hb H0 av A σ H1 δ (E.mono s1) _ ex _ λw H2 s2 r2 => ?_
 have e1:w=kV kk:=(r2.any.val hs).trans hv
 have r3:RepT G.1 av (AV av A) H2 (.dct ks xs) v:=by
  have:=(r1.same s2).tp;rcases hq with rfl|rfl<;>exact this
 obtain⟨p,vs,rfl,_,rd,hl,l⟩:=r3;obtain⟨u,h1,h2⟩:=ZbO kk l hlk;refine⟨p,u,rfl,?_,k u H2 (s1.trans s2) h2.t⟩;rw [<-h1,e1];exact DGet.k rd
def Uh(i:Nat)(κ ε:Env->Option D)(δ:Env):Option Out:=match ε δ,Za i δ,κ δ with
 |some d,some (.dct ks xs),some x=>match Xf x with
  |some k=>if ks.length<sizeLine then some (.nx (δ.set i (some (UL ks xs k d))))else none
  |none=>none
 |_,_,_=>none
theorem Zck{i:Nat}{κ ε:Env->Option D}{δ:Env}{o:Out}(h:Uh i κ ε δ=some o):∃d ks xs x k,ε δ=some d/\Za i δ=some (.dct ks xs)/\κ δ=some x/\Xf x=some k/\ks.length<sizeLine/\o = .nx (δ.set i (some (UL ks xs k d))):=by
 unfold Uh at h
 split at h
 · rename_i d ks xs x h1 h2 h3
   cases hk:Xf x with
   |none=>rw [hk]at h;cases h
   |some k=>
    rw [hk]at h;dsimp only at h
    by_cases hz:ks.length<sizeLine
    · rw [if_pos hz]at h
      exact⟨d,ks,xs,x,k,h1,h2,h3,hk,hz,(Option.some.inj h).symm⟩
    · rw [if_neg hz]at h;cases h
 · cases h
theorem Zgp{te ti:TE}{q:Ql}{ε κ:Env->Option D}(i:Nat)(hi:ow.contains i=true)(h:VE G ow te .cl ε)(hk:VE G ow ti q κ):VS G ow ow owB owC (J8 (Xr i) ti te) (Uh i κ ε):=λH0 av A σ H δ E o e De k=>by
 obtain⟨d,ks,xs,x,kk,e1,e2,e3,hkk,hz,rfl⟩:=Zck e;obtain⟨hv,hs⟩:=Qj hkk;have hi':i∈ow:=by simpa using hi
 cases hA:A i with
 |none=>exact absurd hA (E.dom' i hi')
 |some a=>
  refine h H0 av A σ H δ E d e1 _ λv H1 s1 r1 => ?_
  have E1:=E.mono s1;obtain⟨u,g1,_,g3⟩:=E1.var i _ (YI e2);refine⟨u,g1,hk H0 av A σ H1 δ E1 _ e3 _ λy H2 s2 r2 => ?_⟩;have E2:=E1.mono s2;obtain⟨u',g1',_,g3'⟩:=E2.var i _ (YI e2);obtain⟨rfl,vs,q1,q0,q2⟩:=g3' a hA;have eu:u = .ref a:=(g3 a hA).1;subst eu;have ey:y=kV kk:=(r2.any.val hs).trans hv;subst ey;refine⟨a,_,rfl,DPut.k q1 ?_,k A σ _ (E2.put hA (YI e2) (λb o hb e=>by rw [Zs hb];exact e) (by rw [ZL];exact λz=>by cases z) ?_)⟩
  · have:(ks.zip vs).length=ks.length:=by rw [List.length_zip,<-q2.length,q0];omega
    rw [this];exact hz
  · have ex : ∀ b o, ¬ AV av A b -> H2 b = some o -> upd H2 a (.dK (Yq (ks.zip vs) kk v)) b = some o := fun b o n e => by
     rw [Zs λz=>n (.inr ⟨i,by rw [z];exact hA⟩)];exact e
    exact Zgm kk q0 (q2.ext ex) ((RepT.r (r1.same s2)).ext ex) ZL
end
end DL
namespace L2
open PySem
theorem UM{X:Cx}(h:X.A.units+64<cLine):X.A.units+1<cLine:=by omega
end L2
namespace DL
open PySem PySem.Spec L2
section
variable{G:Cn}{ow owN owB owC ow1:List Nat}
end
section
variable{cA:Kn}{G:Cn}{ow owN owB owC ow1:List Nat}{i:Nat}
end
section
variable{P:Program}{w:World}{K:PySem.W.Frag}{mg:Str->Option Value}{base:Heap}{cA:Kn}
open Classical in
end
end DL
namespace L2
open PySem PySem.Spec PyProof.Rows
section
variable{X:Cx}
theorem Zbk{x:V}:∀{xs:List V}{us:List Value},Vals xs us->xs.all Xl=true->∀(k:Nat)(u:Value)(y:V),us[k]? = some u->xs[k]? = some y->eqU x u=eqV y x
 |_,_,.nil,_=>λk u y h=>by cases k<;>cases h
 |y::xs,u::us,.cons r t,f=>λk u' y' h1 h2=>by
  rw [List.all_cons,Bool.and_eq_true]at f;cases k with
  |zero=>cases h1;cases h2;exact JK r f.1
  |succ k=>exact Zbk t f.2 k u' y' h1 h2
theorem ZeJ{xs:List V}{us:List Value}(h:Vals xs us):xs.length=us.length:=by
 induction h with
 |nil=>rfl
 |cons _ _ ih=>rw [List.length_cons,List.length_cons,ih]
def Zdb(K:PySem.W.Frag):V->List V->Hp->VK->Prop:=λx vs H Q=>∃p xs y j z,x = .ref p/\vs=[y]/\SqL K H p xs/\Xl y=true/\xs.all Xl=true/\xs[j]? = some z/\eqV z y=true/\(∀m w,m<j->xs[m]? = some w->eqV w y=false)/\Q (.int (j:Nat)) H
theorem Za1{K:PySem.W.Frag}(hK:X.K=K:=by rfl):MtR X "list.index" (Zdb K):=by
 subst hK;intro pins s σ H x xs v us Q I rx rs h;obtain⟨p,zs,y,j,z,rfl,rfl,hq,fy,fs,hj,he,hno,q⟩:=h;cases rx;obtain⟨u,rfl,ru⟩:=Xj rs;obtain⟨its,r,pl,hz⟩:=I.list hq;have hs:sizeLine=16777216:=sizeLine_eq;have hl:=ZeJ r;have hjl:j<zs.length:=(List.getElem?_eq_some_iff.mp hj).1;obtain⟨⟨cls,dd,data,sl⟩,ho,hc,n,hd⟩:=id pl.isList;simp only at hc hd;subst hc hd
 have hji:j<its.toArray.size:=by rw [List.size_toArray];omega
 refine call_meets PySem.F.slot_list_index ⟨_,ho,rfl⟩ PySem.F.entry_list_index (PySem.F.args_list_index_2 _ _) (SeqAt.list_indexAt p its.toArray n dd sl u (eqU y) j hji (by omega) ?_ ?_) ⟨ho,λw hw=>QN ru fy r fs w (by simpa using hw),?_⟩
 · rw [Zbk r fs j _ z (by simp) hj]
   exact he
 · intro m hm hmj
   have hm2:m<zs.length:=by omega
   rw [Zbk r fs m _ zs[m] (by simp) (List.getElem?_eq_getElem hm2)];exact hno m _ hmj (List.getElem?_eq_getElem hm2)
 · exact⟨.int _,H,I.tok _,⟨_,rfl⟩,q⟩
end
end L2
namespace DL
open PySem PySem.Spec L2
section
variable{cA:Kn}{G:Cn}{ow owN owB owC ow1:List Nat}{i:Nat}
def ZkC(K:PySem.W.Frag)(r:V->List V->Hp->VK->Prop)(f:List D->D->Option D):Prop:=
 ∀(H:Hp)(a:Addr)(xs:List D)(y d:D),xs.all Zx=true->Zx y=true->SqL K H a (xs.map val)->f xs y=some d->Zx d=true/\∀Q:VK,Q (val d) H->r (.ref a) [val y] H Q
def eLM(f:List D->D->Option D)(a b:Env->Option D)(δ:Env):Option D:=match a δ with
 |some (.lst xs)=>match b δ with
  |some y=>if xs.all Zx&&Zx y then f xs y else none
  |none=>none
 |_=>none
theorem Zhz{K:PySem.W.Frag}{r:V->List V->Hp->VK->Prop}{f:List D->D->Option D}{to tb:TE}{q0 q:Ql}{a b:Env->Option D}(hr:ZkC K r f)(ha:VE G ow to q0 a)(hb:VE G ow tb q b)(hK:G.1.K=K:=by rfl) :
 VE G ow (tBM K "list" r to (VN tb tNil)) .cl (eLM f a b):=λH0 av A σ H δ E d e Q k=>by
 subst hK;unfold eLM at e;cases hx:a δ with
 |none=>rw [hx]at e;cases e
 |some x=>
  rw [hx]at e;cases x<;>first|(cases e;done)|skip
  rename_i xs;dsimp only at e;cases hy:b δ with
  |none=>rw [hy]at e;cases e
  |some y=>
   rw [hy]at e;dsimp only at e
   by_cases hz:(xs.all Zx&&Zx y)=true
   · rw [if_pos hz]at e
     rw [Bool.and_eq_true]at hz;refine ha H0 av A σ H δ E _ hx _ λv H1 s1 r1 => ?_
     obtain⟨p,vs,rfl,_,hq,l⟩:=r1.any;have ev:=l.vals hz.1;subst ev;refine⟨.inl ⟨rfl,_,hq⟩,?_⟩;refine hb H0 av A σ H1 δ (E.mono s1) y hy _ λv2 H2 s2 r2 => ?_
     have e2:v2=val y:=r2.any.val hz.2;subst e2;have hq2:SqL G.1.K H2 p (xs.map val):=hq.elim (λz => .inl (Rd.ext z (s2 p))) .inr;obtain⟨hsd,hh⟩:=hr H2 p xs y d hz.1 hz.2 hq2 e;exact hh _ (k _ H2 (s1.trans s2) (Rep.of_val hsd).t)
   · rw [if_neg hz]at e;cases e
def lindexD(xs:List D)(y:D):Option D:=match(xs.map val).findIdx? λz=>eqV z (val y)with
 |some j=>some (.int (j:Nat))
 |none=>none
theorem ZbQ{K:PySem.W.Frag}:ZkC K (Zdb K) lindexD:=λH a xs y d hx hy hq e=>by
 unfold lindexD at e;cases hj:(xs.map val).findIdx? λz=>eqV z (val y)with
 |none=>rw [hj]at e;cases e
 |some j=>
  rw [hj]at e;cases e;obtain⟨h1,h2,h3⟩:=List.findIdx?_eq_some_iff_getElem.mp hj;refine⟨rfl,λQ q=>⟨a,_,_,j,_,rfl,rfl,hq,QY hy,QZ hx,List.getElem?_eq_getElem h1,h2,λm w hm hw => ?_,q⟩⟩;have hml:m<(xs.map val).length:=by omega
  have:=h3 m hm;rw [List.getElem?_eq_getElem hml]at hw;cases hw;simpa using this
mutual
def frz:D->Bool
 | .non=>true
 | .bl _=>true
 | .int _=>true
 | .str _=>true
 | .lst _=>false
 | .tup xs=>frzL xs
 | .obj _ _ xs=>frzL xs
 | .dct _ _=>false
 | .dtt _ _=>false
def frzL:List D->Bool
 | []=>true
 |x::xs=>frz x&&frzL xs
end
mutual
theorem Rep.frz{av av':Addr->Prop}{H:Hp}:∀{d:D}{v:V},frz d=true->(∀b,av' b->av b\/∃vs,H b=some (.lst vs))->Rep cA av H d v->Rep cA av' H d v
 | .non,_,_,_,h=>h
 | .bl _,_,_,_,h=>h
 | .int _,_,_,_,h=>h
 | .str _,_,_,_,h=>h
 | .lst xs,v,hf,k,h=>by cases hf
 | .tup xs,v,hf,k,h=>by
  unfold DL.frz at hf;unfold Rep at h ⊢;obtain⟨a,vs,e,n,r,l⟩:=h;exact⟨a,vs,e,λz=>(k a z).elim n (by rw [r];exact λ⟨_,z⟩=>by cases z),r,RepL.frz hf k l⟩
 | .obj c ks xs,v,hf,k,h=>by
  unfold DL.frz at hf;unfold Rep at h ⊢;obtain⟨a,dx,vs,e,n,r,z,l⟩:=h;exact⟨a,dx,vs,e,λz=>(k a z).elim n (by rw [r];exact λ⟨_,z⟩=>by cases z),r,z,RepL.frz hf k l⟩
 | .dct ks xs,v,hf,k,h=>by cases hf
 | .dtt ks xs,v,hf,k,h=>by cases hf
theorem RepL.frz{av av':Addr->Prop}{H:Hp}:∀{xs:List D}{vs:List V},frzL xs=true->(∀b,av' b->av b\/∃vs,H b=some (.lst vs))->RepL cA av H xs vs->RepL cA av' H xs vs
 | [],_,_,_,h=>h
 |x::xs,vs,hf,k,h=>by
  unfold DL.frzL at hf;rw [Bool.and_eq_true]at hf;unfold RepL at h ⊢;obtain⟨v,r,e,h1,h2⟩:=h;exact⟨v,r,e,Rep.frz hf.1 k h1,RepL.frz hf.2 k h2⟩
end
end
end DL
namespace PySem
open Sem (wp)
section
variable{prog:Program}{w:World}{A:Around}{E:Value->Shared->Prop}{s:Shared}
theorem Zbw {j t:Addr} {i:Nat} {xs:Array Value} {x:Value} {Q:Value->Shared->Prop} (hj:s.heap.IsTupleIter j t i) (ht:s.heap.IsTuple t xs) (hx:xs[i]? = some x)
 (hQ:∀h',h'.IsTupleIter j t (i+1)->Heap.SameBut j s.heap h'->Q x { s with heap:=h' }):wpAny (model prog w) A (Builtin.SmallTypes.nextOf (.ref j)) Q E s:=by
 obtain⟨oj,gj,cj,dj⟩:=id hj;obtain⟨ot,gt,_,nt,dt⟩:=ht;unfold Builtin.SmallTypes.nextOf;refine wpAny_bind (wpAny_callSpecial?_slot (name:=Str.ofString "__next__") hj.typeIs F.slot_tuple_iterator_next (wpAny_call_entry F.slot_tuple_iterator_next hj.typeIs F.entry_tuple_iterator_next ?_ (F.args_tuple_iterator_next_1 _)));show wpAny _ _ (field (.ref j) 0 >>= _) _ _ s;refine wpAny_bind (wpAny_field gj dj (x:=.ref t) rfl ?_)
 show wpAny _ _ (if(Value.ref t == Value.none)=true then _ else _) _ _ _;rw [if_neg (show ¬(Value.ref t == Value.none)=true from λz=>Bool.false_ne_true z)];show wpAny _ _ (field (.ref j) 1 >>= _) _ _ s;refine wpAny_bind (wpAny_field gj dj (x:=.int i 0) rfl ?_);show wpAny _ _ (seqItems? (.ref t) >>= _) _ _ _;refine wpAny_bind (wpAny_seqItems gt dt ?_);simp only [Int.toNat_natCast,hx];refine wpAny_bind (wpAny_setField gj dj (by simp) (wpAny_pure ⟨x,rfl,wpAny_pure (hQ _ ?_ (Heap.SameBut.update ..))⟩))
 refine⟨_,Heap.get?_update_self _ gj (Obj.isFreed_of_fields (Obj.data_mapFields dj _)),(Obj.cls_mapFields ..).trans cj,?_⟩;rw [Obj.data_mapFields dj];simp [rawInt]
theorem Zap {j t:Addr} {i:Nat} {xs:Array Value} {Q:Value->Shared->Prop} (hh:A.handled=none) (hj:s.heap.IsTupleIter j t i) (ht:s.heap.IsTuple t xs) (hx:xs[i]? = none)
 (hE:∀h' e,Heap.ExtBut j s.heap h'->(∃o,h'.get? e=some o/\o.cls = .type "StopIteration")->E (.ref e) { s with heap:=h' }):wpAny (model prog w) A (Builtin.SmallTypes.nextOf (.ref j)) Q E s:=by
 obtain⟨oj,gj,cj,dj⟩:=id hj;obtain⟨ot,gt,_,nt,dt⟩:=ht;unfold Builtin.SmallTypes.nextOf;refine wpAny_bind (wpAny_callSpecial?_slot (name:=Str.ofString "__next__") hj.typeIs F.slot_tuple_iterator_next (wpAny_call_entry F.slot_tuple_iterator_next hj.typeIs F.entry_tuple_iterator_next ?_ (F.args_tuple_iterator_next_1 _)));show wpAny _ _ (field (.ref j) 0 >>= _) _ _ s;refine wpAny_bind (wpAny_field gj dj (x:=.ref t) rfl ?_)
 show wpAny _ _ (if(Value.ref t == Value.none)=true then _ else _) _ _ _;rw [if_neg (show ¬(Value.ref t == Value.none)=true from λz=>Bool.false_ne_true z)];show wpAny _ _ (field (.ref j) 1 >>= _) _ _ s;refine wpAny_bind (wpAny_field gj dj (x:=.int i 0) rfl ?_);show wpAny _ _ (seqItems? (.ref t) >>= _) _ _ _;refine wpAny_bind (wpAny_seqItems gt dt ?_);simp only [Int.toNat_natCast,hx];refine wpAny_bind (wpAny_rule (wpAny_bind (wpAny_setField gj dj (by simp) ?_)))
 show wpAny _ _ (newExc (.type "StopIteration") List.nil >>= _) _ _ _;refine wpAny_bind ?_;simp only [newExc,newTuple];refine wpAny_bind (wpAny_newObj_type (wpAny_bind (m:=firstArgMember _ _) (wpAny_of_eq (a:=Value.none) (by first|rfl|(simp only [firstArgMember];rfl)) (wpAny_newObj_type ?_ (by size_fits)))) (by size_fits));simp only [raiseNew];refine wpAny_bind (wpAny_handled ?_)
 first|rw [show A.in1.handled=none from hh]|rw [hh]
 exact wpAny_bind (wpAny_pure (wpAny_throw (hE _ _ (((Heap.SameBut.update ..).extBut.push _).push _) ⟨_,Heap.get?_push_size _ rfl,rfl⟩)))
end
def IsQI(k:Bool)(h:Heap)(a l:Addr)(i:Nat):Prop:=match k with
 |true=>h.IsTupleIter a l i
 |false=>h.IsListIter a l i
def IsQ(k:Bool)(h:Heap)(l:Addr)(xs:Array Value):Prop:=match k with
 |true=>h.IsTuple l xs
 |false=>h.IsList l xs
theorem IsQI.get{k:Bool}{h:Heap}{a l:Addr}{i:Nat}(x:IsQI k h a l i):∃o,h.get? a=some o/\o.data = .fields #[.ref l,.int i 0]:=by
 cases k with
 |true=>obtain⟨o,e,_,d⟩:=x;exact⟨o,e,d⟩
 |false=>obtain⟨o,e,_,d⟩:=x;exact⟨o,e,d⟩
theorem IsQI.at{k:Bool}{h h':Heap}{a l:Addr}{i:Nat}(x:IsQI k h a l i)(f:∀o,h.get? a=some o->h'.get? a=some o):IsQI k h' a l i:=by
 cases k with
 |true=>obtain⟨o,e,r⟩:=x;exact⟨o,f o e,r⟩
 |false=>obtain⟨o,e,r⟩:=x;exact⟨o,f o e,r⟩
theorem IsQI.ext{k:Bool}{h h':Heap}{a b l:Addr}{i:Nat}(x:IsQI k h a l i)(hs:Heap.ExtBut b h h')(n:a≠b):IsQI k h' a l i:=x.at λo e=>hs a o n e
theorem IsQ.at{k:Bool}{h h':Heap}{l:Addr}{xs:Array Value}(x:IsQ k h l xs)(f:∀o,h.get? l=some o->h'.get? l=some o):IsQ k h' l xs:=by
 cases k with
 |true=>obtain⟨o,e,r⟩:=x;exact⟨o,f o e,r⟩
 |false=>obtain⟨o,e,r⟩:=x;exact⟨o,f o e,r⟩
theorem IsQ.ext{k:Bool}{h h':Heap}{b l:Addr}{xs:Array Value}(x:IsQ k h l xs)(hs:Heap.ExtBut b h h')(n:l≠b):IsQ k h' l xs:=x.at λo e=>hs l o n e
theorem IsQ.lt{k:Bool}{h:Heap}{l:Addr}{xs:Array Value}(x:IsQ k h l xs):l<h.objs.size:=by
 cases k with
 |true=>obtain⟨o,e,_⟩:=x;exact Heap.lt_size e
 |false=>obtain⟨o,e,_⟩:=x;exact Heap.lt_size e
section
variable{prog:Program}{w:World}{A:Around}{E:Value->Shared->Prop}{s:Shared}
end
section
variable{prog:Program}{w:World}{A:Around}{E:Value->Shared->Prop}{s:Shared}
end
end PySem
namespace L2
open PySem PySem.Spec PyProof.Rows
def SqQ(k:Bool)(K:PySem.W.Frag)(H:Hp)(a:Addr)(xs:List V):Prop:=match k with
 |true=>SqT K H a xs
 |false=>SqL K H a xs
section
variable{X:Cx}{elts:List Expr}{x1:Nat}{tpos:Pos}
end
end L2
namespace DL
open PySem PySem.Spec L2
section
variable{cA:Kn}{G:Cn}{ow:List Nat}
theorem ZeK{k:Bool}{K:PySem.W.Frag}{H H':Hp}{a:Addr}{xs:List V}(e:Same H H')(h:SqQ k K H a xs):SqQ k K H' a xs:=by
 cases k with
 |false=>exact Same.seq e h
 |true=>
  rcases h with(h|⟨o,h⟩)|h
  · exact .inl (.inl (e _ _ h))
  · exact .inl (.inr ⟨o,e _ _ h⟩)
  · exact .inr h
end
end DL
namespace DL
open PySem PySem.Spec PyProof.Rows L2
def Xo:List Int->Int
 | []=>0
 |n::ns=>ns.foldl min n
theorem Zab:∀(ns:List Int)(n:Int),(ns.foldl min n=n\/ns.foldl min n∈ns)/\ns.foldl min n<=n/\∀a∈ns,ns.foldl min n<=a
 | [],n=>⟨.inl rfl,Int.le_refl _,λ_ z=>nomatch z⟩
 |m::ns,n=>by
  obtain⟨h1,h2,h3⟩:=Zab ns (min n m);rw [List.foldl_cons];refine⟨?_,by omega,λa ha => ?_⟩
  · rcases h1 with h|h
    · by_cases hm:n<=m
      · exact .inl (by rw [h,Int.min_eq_left hm])
      · exact .inr (by rw [h,Int.min_eq_right (by omega)];exact List.mem_cons_self)
    · exact .inr (List.mem_cons_of_mem _ h)
  · rcases List.mem_cons.mp ha with rfl|ha
    · omega
    · exact h3 a ha
theorem Q6{ns:List Int}(h:0<ns.length):Xo ns∈ns/\∀a∈ns,Xo ns<=a:=by
 cases ns with
 |nil=>cases h
 |cons n ns=>
  obtain⟨h1,h2,h3⟩:=Zab ns n;refine⟨?_,λa ha => ?_⟩
  · rcases h1 with h|h
    · show ns.foldl min n∈_
      rw [h];exact List.mem_cons_self
    · exact List.mem_cons_of_mem _ h
  · rcases List.mem_cons.mp ha with rfl|ha
    · exact h2
    · exact h3 a ha
theorem Za2{ns:List Int}{M:Int}(h1:M∈ns)(h2:∀a∈ns,M<=a):M=Xo ns:=by
 obtain⟨h3,h4⟩:=Q6 (List.length_pos_of_mem h1);exact Int.le_antisymm (h2 _ h3) (h4 M h1)
def ZfS(K:PySem.W.Frag):List V->Hp->VK->Prop:=λxs H Q=>∃(p:Addr) (ns:List Int),xs=[.ref p]/\SqL K H p (ns.map V.int)/\0<ns.length/\Q (.int (Xo ns)) H
section
variable{X:Cx}{K:PySem.W.Frag}{cA:Kn}
theorem Zd2(hc:X.calm=true):YG X (.builtin "min") (ZfS X.K):=by
 intro pins s σ H xs us Q I rs h;obtain⟨p,ns,rfl,hq,hne,q⟩:=h;obtain⟨u,rfl,rx⟩:=Xj rs;cases rx;obtain⟨its,rv,pl,hz⟩:=I.list hq;have hi:=ZaG ns its rv;obtain⟨ys,e⟩:=hi.allInts.items
 have hns:ns=ys.toList.map (·.1):=by
  rw [<-hi.numsOf,<-nums_intItems,<-e]
 have hsz:0<ys.size:=by
  have h3:=hne;rw [hns,List.length_map,Array.length_toList]at h3;exact h3
 have hl:=pl.isList;rw [e]at hl;refine min_intList (I.ok.hd hc) hl hsz λv h' tk hv hk => ?_
 obtain⟨t,rfl⟩:=intItems_at hv;obtain⟨h1,h2⟩:=argBest_lt (numAt ys) (ys.size-1)
 have hM:=Za2 (ns:=ns) (M:=numAt ys (argBest (λi j=>decide (numAt ys i<numAt ys j)) (ys.size-1))) (by
  rw [hns,numAt_eq];exact getD_mem (by rw [List.length_map,Array.length_toList];omega)) (λa ha=>by
  rw [hns]at ha;obtain⟨j,hj,rfl⟩:=mem_getD ha;rw [List.length_map,Array.length_toList]at hj;rw [<-numAt_eq];exact h2 j (by omega))
 exact⟨.int (Xo ns),H,I.kept hk,⟨t,by rw [hM]⟩,q⟩
def minLD:List D->Option D
 | [.lst xs]=>match XA xs with
  |some ns=>if 0<ns.length then some (.int (Xo ns))else none
  |none=>none
 |_=>none
theorem Zgq:UG cA (ZfS cA.K) minLD:=λi H ds vs d _ h e Q k=>by
 unfold minLD at e
 split at e
 · rename_i xs
   cases hb:XA xs with
   |none=>rw [hb]at e;cases e
   |some bs=>
    rw [hb]at e;dsimp only at e
    by_cases hz:0<bs.length
    · rw [if_pos hz]at e
      cases e;obtain⟨v,t,rfl,a,ws,rfl,_,rd,l⟩:=il1 h;have ex:=ZaF hb;subst ex;have ev:=l.vals (by rw [List.all_map];exact List.all_eq_true.mpr λ_ _=>rfl);rw [List.map_map]at ev;subst ev;exact⟨a,bs,rfl,rd,hz,k _ H (Same.refl H) rfl⟩
    · rw [if_neg hz]at e;cases e
 · cases e
variable{G:Cn}{ow:List Nat}
def Qk(κ ε:Env->Option D)(δ:Env):Option D:=match κ δ,UC ε δ with
 |some x,some d=>match Xf x with
  |some k=>some (.dct [k] [d])
  |none=>none
 |_,_=>none
open Classical in
theorem ZeL{tk tv:TE}{q1 q2:Ql}{κ ε:Env->Option D}(h1:VE G ow tk q1 κ)(h2:VE G ow tv q2 ε):VFD G ow (Zhn [(tk,tv)]) (Qk κ ε):=λH0 av A σ H δ E d e Q k=>λp hp=>by
 unfold Qk at e;cases hx:κ δ with
 |none=>rw [hx]at e;cases e
 |some x=>
  cases hy:UC ε δ with
  |none=>rw [hx,hy]at e;cases e
  |some y=>
   rw [hx,hy]at e;dsimp only at e;cases hk:Xf x with
   |none=>rw [hk]at e;cases e
   |some kk=>
    rw [hk]at e;cases e;have sp:Same H (upd H p (.dK [])):=Yb hp;refine h1 H0 av A σ _ δ (E.mono sp) x hx _ λv H1 s1 r1 => ?_
    refine h2.scal H0 av A σ _ δ ((E.mono sp).mono s1) y hy _ λu H2 s2 r2 => ?_
    obtain⟨ek,sk⟩:=Qj hk;have ev:v=kV kk:=by rw [<-ek];exact r1.any.val sk
    have sy:Zx y=true:=Zgk hy;have eu:u=val y:=(RepT.r r2).val sy;subst ev eu;have hp2:H2 p=some (.dK []):=s2 _ _ (s1 _ _ ZL);refine⟨hp2,[(kk,val y)],rfl,by show 1<=15;decide,?_⟩
    have eu2:upd H2 p (.dK (UB [] [(kk,val y)]))=upd (λb=>if b=p then none else H2 b) p (.dK (([kk]:List Key).zip [val y])):=by
     funext b
     by_cases hb:b=p
     · rw [hb,ZL,ZL]
       rfl
     · rw [Zs hb,Zs hb,if_neg hb]
    rw [eu2];refine k p [kk] [val y] [y] (λb=>if b=p then none else H2 b) (λb o hb => ?_) (if_pos rfl) rfl (.cons (.of_val sy) .nil) rfl;have hbp:b≠p:=λz=>by rw [z,hp]at hb;cases hb
    show(if b=p then none else H2 b)=some o;rw [if_neg hbp];exact s2 _ _ (s1 _ _ (sp _ _ hb))
end
end DL
namespace DL
open PySem PySem.Spec L2
def X5{α:Type}(k:List Key)(d:α):List (List Key)->List α->List α
 |k0::ks,x::xs=>(if k0=k then d else x)::X5 k d ks xs
 |_,xs=>xs
def Ui(k:List Key):List (List Key)->Bool
 | []=>false
 |k0::ks=>decide (k0=k)||Ui k ks
def Qm(ks:List (List Key))(xs:List D)(k:List Key)(d:D):D:=if Ui k ks=true then .dtt ks (X5 k d ks xs)else .dtt (ks++[k]) (xs++[d])
theorem Za3{α:Type}(k:List Key)(d:α):∀(ks:List (List Key))(xs:List α),(X5 k d ks xs).length=xs.length
 | [],_=>rfl
 |_::_,[]=>rfl
 |k0::ks,x::xs=>by rw [X5,List.length_cons,List.length_cons,Za3 k d ks xs]
theorem ZbR(k:List Key):∀(ks:List (List Key))(vs:List V),ks.length=vs.length->((ks.zip vs).any λkv=>decide (kv.1=k))=Ui k ks
 | [],_,_=>rfl
 |k0::ks,[],h=>by simp at h
 |k0::ks,v::vs,h=>by
  rw [List.zip_cons_cons,List.any_cons,ZbR k ks vs (by simpa using h)];rfl
theorem ZbS(k:List Key)(v:V):∀(ks:List (List Key))(vs:List V),ks.length=vs.length->(ks.zip vs).map (λkv=>if kv.1=k then(kv.1,v)else kv)=ks.zip (X5 k v ks vs)
 | [],_,_=>by simp
 |k0::ks,[],h=>by simp at h
 |k0::ks,x::vs,h=>by
  rw [List.zip_cons_cons,List.map_cons,X5,List.zip_cons_cons,ZbS k v ks vs (by simpa using h)]
  by_cases e:k0=k
  · simp [e]
  · simp [e]
section
variable{cA:Kn}{av:Addr->Prop}{H:Hp}
theorem Za4(k:List Key){d:D}{v:V}(hd:Rep cA av H d v):∀(ks:List (List Key)){xs:List D}{vs:List V},RepL cA av H xs vs->RepL cA av H (X5 k d ks xs) (X5 k v ks vs)
 | [],xs,vs,l=>l
 |k0::ks,[],vs,l=>by rw [l.nil_of];exact .nil
 |k0::ks,y::xs,vs,l=>by
  obtain⟨u,r,rfl,h1,h2⟩:=l.uncons;rw [X5,X5];refine .cons ?_ (Za4 k hd ks h2)
  by_cases e:k0=k
  · rw [if_pos e,if_pos e];exact hd
  · rw [if_neg e,if_neg e];exact h1
theorem ZeM(k:List Key){d:D}{v:V}{ks:List (List Key)}{xs:List D}{vs:List V}{a:Addr}{H':Hp}(hks:ks.length=xs.length)(l:RepL cA av H' xs vs)(hd:Rep cA av H' d v)(e:H' a=some (.dT (Yq (ks.zip vs) k v))):Own cA av H' (Qm ks xs k d) a:=by
 have hl:ks.length=vs.length:=by rw [hks,l.length]
 unfold Yq at e;rw [ZbR k ks vs hl]at e;unfold Qm
 by_cases h:Ui k ks=true
 · rw [if_pos h,ZbS k v ks vs hl]at e
   rw [if_pos h];exact⟨_,e,by rw [Za3];exact hks,Za4 k hd ks l⟩
 · rw [if_neg h]at e
   rw [if_neg h];refine⟨vs++[v],?_,by rw [List.length_append,List.length_append,hks];rfl,l.append (.cons hd .nil)⟩;rw [e,List.zip_append hl];rfl
end
section
variable{G:Cn}{ow owN owB owC ow1:List Nat}{H0 H:Hp}{av:Addr->Prop}{A:Nat->Option Addr}{σ:L2.St}{δ:Env}
theorem ZeN{i:Nat}{ks:List (List Key)}{xs:List D}{vs:List V}{p:Addr}(E:ER G ow H0 av A σ H δ)(hp:H p=none)(hks:ks.length=xs.length)(l:RepL G.1 (AV av A) H xs vs)(hw:∀j,j∈ow1 ↔ j∈ow\/j=i)(hn:G.2 i=none) :
 ER G ow1 H0 av (λj=>if j=i then some p else A j) (σ.set i (some (.ref p))) (upd H p (.dT (ks.zip vs))) (δ.set i (some (.dtt ks xs))):=by
 have hs:Same H (upd H p (.dT (ks.zip vs))):=Yb hp
 have less:∀b,AV av (λj=>if j=i then some p else A j) b->AV av A b\/H b=none:=λb z=>by
  rcases z with z|⟨j,z⟩
  · exact .inl (.inl z)
  · by_cases e:j=i
    · simp [e]at z;subst z;exact .inr hp
    · simp [e]at z;exact .inl (.inr ⟨j,z⟩)
 have np:∀j a,A j=some a->a≠p:=λj a e z=>by subst z;exact E.live j a e hp
 have h0:H0 p=none:=by
  cases q:H0 p with
  |none=>rfl
  |some o=>rw [E.same p o q]at hp;cases hp
 refine⟨E.same.trans hs,E.avd,λj a e => ?_,λj k a e1 e2 => ?_,λj a e => ?_,λj e => ?_,λj hj => ?_,by simp [E.len],λj a e=>(by
  have q:j≠i:=λz=>by rw [z,hn]at e;cases e
  simp only [q,if_false];exact E.pin j a e),(λj v' e=>by
  have q:j≠i:=λz=>by rw [z,hn]at e;cases e
  rw [List.getElem?_set_ne (Ne.symm q)];exact E.kept j v' e),λj d' e => ?_⟩
 · by_cases q:j=i
   · simp [q]at e;subst e;exact h0
   · simp [q]at e;exact E.fr j a e
 · by_cases q:j=i
   · by_cases q2:k=i
     · rw [q,q2]
     · simp [q]at e1;simp [q2]at e2
       exact absurd e1.symm (np k a e2)
   · by_cases q2:k=i
     · simp [q]at e1;simp [q2]at e2
       exact absurd e2.symm (np j a e1)
     · simp [q]at e1;simp [q2]at e2;exact E.inj j k a e1 e2
 · by_cases q:j=i
   · simp [q]at e;subst e;rw [ZL];exact λz=>by cases z
   · simp [q]at e
     rw [Zs (np j a e)];exact E.live j a e
 · by_cases q:j=i
   · exact(hw j).mpr (.inr q)
   · simp [q]at e;exact(hw j).mpr (.inl (E.dom j e))
 · by_cases q:j=i
   · simp [q]
   · simp [q]
     exact E.dom' j (((hw j).mp hj).resolve_right q)
 · rcases UI e with⟨rfl,rfl,hl⟩|⟨q,e'⟩
   · refine⟨.ref p,?_,λz=>by simp at z,λa z => ?_⟩
     · rw [List.getElem?_set_self (by rw [E.len];exact hl)]
     · simp at z
       subst z;exact⟨rfl,vs,ZL,hks,(l.av less).same hs⟩
   · obtain⟨v',h1,h2,h3⟩:=E.var j d' e'
     refine⟨v',by rw [List.getElem?_set_ne (Ne.symm q)];exact h1,λz => ?_,λa z => ?_⟩
     · simp [q]at z
       exact((h2 z).av less).same hs
     · simp [q]at z
       obtain⟨r1,r2⟩:=h3 a z;refine⟨r1,?_⟩;cases d' with
       |lst xs=>obtain⟨vs',q1,q2⟩:=r2;exact⟨vs',hs _ _ q1,(q2.av less).same hs⟩
       |obj c ks xs=>obtain⟨dx,vs',q1,q0,q2⟩:=r2;exact⟨dx,vs',hs _ _ q1,q0,(q2.av less).same hs⟩
       |dct ks xs=>obtain⟨vs',q1,q0,q2⟩:=r2;exact⟨vs',hs _ _ q1,q0,(q2.av less).same hs⟩
       |dtt ks xs=>obtain⟨vs',q1,q0,q2⟩:=r2;exact⟨vs',hs _ _ q1,q0,(q2.av less).same hs⟩
       |_=>exact r2
def ZkD(G:Cn)(ow:List Nat)(te:TE)(ε:Env->Option D):Prop:=
 ∀H0 av A σ H δ,ER G ow H0 av A σ H δ->∀d,ε δ=some d->∀Q:VK,(∀p ks vs xs H1,Same H H1->H1 p=none->ks.length=xs.length->RepL G.1 (AV av A) H1 xs vs->d = .dtt ks xs->Q (.ref p) (upd H1 p (.dT (ks.zip vs))))->te σ H Q
theorem ZbT{te:TE}{ε:Env->Option D}(i:Nat)(h:ZkD G ow te ε)(hn:G.2 i=none)(h1:sub owN (i::ow)=true)(h2:owN.contains i=true)(h3:sub ow owN=true):VS G ow owN owB owC (XH te (XG i)) (Zg i ε):=λH0 av A σ H δ E o e De k=>by
 unfold Zg at e;cases he:ε δ with
 |none=>rw [he]at e;cases e
 |some d=>
  rw [he]at e;cases e;refine h H0 av A σ H δ E d he _ λp ks vs xs H1 s hp hk l hd => ?_
  subst hd;exact k _ _ _ (ZeN (E.mono s) hp hk l (ZaC h1 h2 h3) hn)
def Qn:List D->Option (List Key)
 | []=>some []
 |x::xs=>match Xf x,Qn xs with
  |some k,some ks=>some (k::ks)
  |_,_=>none
def Qo:D->Option (List Key)
 | .tup xs=>Qn xs
 |_=>none
theorem Zaq{cA:Kn}{av:Addr->Prop}{H:Hp}:∀{xs:List D}{ks:List Key}{vs:List V},Qn xs=some ks->RepL cA av H xs vs->vs=ks.map kV
 | [],ks,vs,h,l=>by cases h;exact l.nil_of
 |x::xs,ks,vs,h,l=>by
  obtain⟨v,r,rfl,h1,h2⟩:=l.uncons;unfold Qn at h;cases hk:Xf x with
  |none=>rw [hk]at h;cases h
  |some k=>
   cases hks:Qn xs with
   |none=>rw [hk,hks]at h;cases h
   |some ks'=>
    rw [hk,hks]at h;cases h;obtain⟨e1,e2⟩:=Qj hk;rw [List.map_cons,Zaq hks h2,h1.val e2,e1]
theorem ZeO{cA:Kn}{av:Addr->Prop}{H:Hp}{x:D}{k:List Key}{v:V}(h:Qo x=some k)(r:Rep cA av H x v):∃b,v = .ref b/\H b=some (.tup (k.map kV)):=by
 cases x<;>first|(cases h;done)|skip
 obtain⟨a,vs,rfl,_,hH,l⟩:=r;exact⟨a,rfl,by rw [hH,Zaq h l]⟩
def Vr(i:Nat)(κ ε:Env->Option D)(δ:Env):Option Out:=match ε δ,Za i δ,κ δ with
 |some d,some (.dtt ks xs),some x=>match Qo x with
  |some k=>if ks.length<sizeLine then some (.nx (δ.set i (some (Qm ks xs k d))))else none
  |none=>none
 |_,_,_=>none
theorem Zbx{i:Nat}{κ ε:Env->Option D}{δ:Env}{o:Out}(h:Vr i κ ε δ=some o):∃d ks xs x k,ε δ=some d/\Za i δ=some (.dtt ks xs)/\κ δ=some x/\Qo x=some k/\ks.length<sizeLine/\o = .nx (δ.set i (some (Qm ks xs k d))):=by
 unfold Vr at h
 split at h
 · rename_i d ks xs x h1 h2 h3
   cases hk:Qo x with
   |none=>rw [hk]at h;cases h
   |some k=>
    rw [hk]at h;dsimp only at h
    by_cases hz:ks.length<sizeLine
    · rw [if_pos hz]at h
      exact⟨d,ks,xs,x,k,h1,h2,h3,hk,hz,(Option.some.inj h).symm⟩
    · rw [if_neg hz]at h;cases h
 · cases h
theorem ZbU{te ti:TE}{q:Ql}{ε κ:Env->Option D}(i:Nat)(hi:ow.contains i=true)(h:VE G ow te .cl ε)(hk:VE G ow ti q κ):VS G ow ow owB owC (J8 (Xr i) ti te) (Vr i κ ε):=λH0 av A σ H δ E o e De k=>by
 obtain⟨d,ks,xs,x,kk,e1,e2,e3,hkk,hz,rfl⟩:=Zbx e;have hi':i∈ow:=by simpa using hi
 cases hA:A i with
 |none=>exact absurd hA (E.dom' i hi')
 |some a=>
  refine h H0 av A σ H δ E d e1 _ λv H1 s1 r1 => ?_
  have E1:=E.mono s1;obtain⟨u,g1,_,g3⟩:=E1.var i _ (YI e2);refine⟨u,g1,hk H0 av A σ H1 δ E1 _ e3 _ λy H2 s2 r2 => ?_⟩;have E2:=E1.mono s2;obtain⟨u',g1',_,g3'⟩:=E2.var i _ (YI e2);obtain⟨rfl,vs,q1,q0,q2⟩:=g3' a hA;have eu:u = .ref a:=(g3 a hA).1;subst eu;obtain⟨b,rfl,hbb⟩:=ZeO hkk r2.any;refine⟨a,_,rfl,DPut.t q1 hbb ?_,k A σ _ (E2.put hA (YI e2) (λb o hb e=>by rw [Zs hb];exact e) (by rw [ZL];exact λz=>by cases z) ?_)⟩
  · have:(ks.zip vs).length=ks.length:=by rw [List.length_zip,<-q2.length,q0];omega
    rw [this];exact hz
  · have ex : ∀ b o, ¬ AV av A b -> H2 b = some o -> upd H2 a (.dT (Yq (ks.zip vs) kk v)) b = some o := fun b o n e => by
     rw [Zs λz=>n (.inr ⟨i,by rw [z];exact hA⟩)];exact e
    exact ZeM kk q0 (q2.ext ex) ((RepT.r (r1.same s2)).ext ex) ZL
end
end DL
namespace L2
open PySem PySem.Spec PyProof.Rows
section
variable{X:Cx}
end
end L2
namespace DL
open PySem PySem.Spec L2
section
variable{G:Cn}{ow owN owB owC ow1:List Nat}
open Classical in
end
end DL
namespace L2
open PySem PySem.Spec PyProof.Rows
section
variable{X:Cx}
end
end L2
namespace DL
open PySem PySem.Spec L2
section
variable{G:Cn}{ow owN owB owC ow1:List Nat}
def XD(γ:D->Env->Option Env)(ε:Env->Option D)(δ:Env):Option Out:=match ε δ with
 |some d=>match γ d δ with
  |some δ'=>some (.nx δ')
  |none=>none
 |none=>none
theorem Zbl{te:TE}{g:TG}{γ:D->Env->Option Env}{ε:Env->Option D}(h:VE G ow te .cl ε)(hg:VG G ow ow g γ):VS G ow ow owB owC (XH te g) (XD γ ε):=λH0 av A σ H δ E o e De k=>by
 unfold XD at e;cases he:ε δ with
 |none=>rw [he]at e;cases e
 |some d=>
  rw [he]at e;dsimp only at e;cases hγ:γ d δ with
  |none=>rw [hγ]at e;cases e
  |some δ'=>
   rw [hγ]at e;cases e;refine h H0 av A σ H δ E d he _ λv H1 s1 r1 => ?_
   exact hg H0 av A σ H1 δ (E.mono s1) d v (RepT.r r1) δ' hγ _ λA' σ' H' s' E'=>k A' σ' H' E'
end
end DL
namespace DL
open PySem PySem.Spec L2
section
variable{cA:Kn}{G:Cn}{ow owN owB owC:List Nat}
end
end DL
namespace DL
open PySem PySem.Spec L2
section
variable{X:Cx}{cA:Kn}
open Classical in
end
end DL
namespace DL
open PySem PySem.Spec L2
section
variable{cA:Kn}{G:Cn}{ow owN owB owC ow1:List Nat}{i:Nat}{H0 H H':Hp}{av:Addr->Prop}{A:Nat->Option Addr}{σ:L2.St}{δ:Env}
open Classical in
end
end DL
namespace DL
open PySem PySem.Spec L2
section
variable{cA:Kn}{G:Cn}{ow owN owB owC ow1:List Nat}{i:Nat}{H0 H H':Hp}{av:Addr->Prop}{A A':Nat->Option Addr}{σ σ':L2.St}{δ δ1:Env}
end
end DL
namespace DL
open PySem PySem.Spec L2
section
variable{cA:Kn}{G:Cn}{ow owN owB owC ow1:List Nat}{i:Nat}
open Classical in
end
end DL
namespace DL
open PySem PySem.Spec L2
section
variable{G:Cn}{ow ow1:List Nat}
end
end DL
namespace L2
open PySem PySem.Spec PyProof.Rows
structure CompSd(X:Cx)(scope:Scope)(tn cn:List Str)(js:List Nat):Prop where
 kind:scope.kind = .function
 own:∀y∈scope.names,y.2 = .cell->scope.names.lookup y.1=some .cell
 names:∀y∈scope.names,y.2 = .local->scope.names.lookup y.1=some .local
 free:∀y∈scope.names,y.2 = .free->X.env.kindOf y.1=some .cell\/X.env.kindOf y.1=some .free
 cap:∀(k:Nat)(x:Str),cn[k]? = some x->∃j,js[k]? = some j/\X.N[j]? = some x/\(X.env.kindOf x=some .cell\/X.env.kindOf x=some .free)/\scope.names.lookup x=some .free
 len:cn.length=js.length
section
variable{X:Cx}{pins:List (Addr×Obj)}{σ:St}{H₂:Hp}{s₂:Shared}{scope:Scope}{tn cn:List Str}{js:List Nat}
end
section
variable{X:Cx}{tg iter elt:Expr}{ifs:List Expr}{scope:Scope}{pos:Pos}{wi:TI}{g:TG}{tt:TT}{te:TE}{tn cn:List Str}{js:List Nat}
end
end L2
namespace PySem
abbrev Zib(h:Heap)(z TI TO:Addr)(f0 f1:Value):Prop:=
 h.get? z=some { cls := .type "zip",dict:=none,data := .fields #[f0,f1,.bool false,.ref TI,.ref TO],slots := #[] }
section
variable{prog:Program}{w:World}{A:Around}{E:Value->Shared->Prop}{s:Shared}
structure ZipSt(h:Heap)(z TI TO i1 i2 l1 l2:Addr)(i:Nat):Prop where
 zip:∃f0 b,Zib h z TI TO f0 (.bool b)/\((f0 = .none/\b=false)\/∃T o,f0=rawInt (T:Nat)/\h.get? T=some o)
 TI:IsPair h TI (.ref i1) (.ref i2)
 TO:∃a b,IsPair h TO a b
 it1:h.IsListIter i1 l1 i
 it2:h.IsListIter i2 l2 i
end
end PySem
namespace L2
open PySem PySem.Spec PyProof.Rows
end L2
namespace L2
open PySem PySem.Spec PyProof.Rows
section
variable{X:Cx}
open Classical in
end
end L2
namespace DL
open PySem PySem.Spec L2
section
variable{cA:Kn}{G:Cn}{ow:List Nat}
end
end DL
namespace L2
open PySem PySem.Spec PyProof.Rows
def ZbV(ta:TA):TE:=λσ H Q=>ta σ H λvs H1=>∃n:Nat,vs=[.int (n:Int)]/\n<=1000000/\∀l,H1 l=none->Q (.ref l) (upd H1 l (.lst ((List.range n).map λk:Nat=>V.int (k:Int))))
theorem ZeP(acc:List Value)(n:Nat)(hl:acc.length=n)(h:∀(j:Nat)(v:Value),acc[j]? = some v->∃t,v = .int (0+(j:Nat)*1) t):Vals ((List.range n).map λk:Nat=>V.int (k:Int)) acc:=by
 have go:∀(k:Nat)(acc:List Value),(∀(j:Nat)(v:Value),acc[j]? = some v->∃t,v = .int ((k+j:Nat):Int) t)->Vals ((List.range' k acc.length).map λk:Nat=>V.int (k:Int)) acc:=λk acc=>by
  induction acc generalizing k with
  |nil=>exact λ_ => .nil
  |cons v acc ih=>
   intro h;rw [List.length_cons,List.range'_succ,List.map_cons];obtain⟨t,e⟩:=h 0 v rfl;refine .cons ⟨t,e⟩ (ih (k+1) λj v hj => ?_);obtain⟨t,e⟩:=h (j+1) v (by simpa using hj);exact⟨t,by rw [e,show k+(j+1)=k+1+j by omega]⟩
 rw [List.range_eq_range',<-hl]
 exact go 0 acc λj v hj=>by
  obtain⟨t,e⟩:=h j v hj;exact⟨t,by rw [e];congr 1;omega⟩
theorem Zcl {X:Cx} {a:Expr} {ta:TA} {p p2 pos pos2:Pos} (hcm:X.calm=true) (hg:Gl X "list") (hm:X.mg "list" = none) (hgz:Gl X "range") (hmz:X.mg "range" = none) (ha:PA X [a] ta) (hs:starEach [a] X.env=[(false,eval a X.env)]:=by rfl)
 (ho:starEach [.Call (.Name "range" p2) [a] [] pos2] X.env=[(false,eval (.Call (.Name "range" p2) [a] [] pos2) X.env)]:=by rfl) :
 PE X (.Call (.Name "list" p) [.Call (.Name "range" p2) [a] [] pos2] [] pos) (ZbV ta):=by
 intro pins s σ H Q I h;refine wpAny_Call_Name_kw (Vf I hg hm boot_list ?_ (by decide) (by decide));refine PyProof.Rows.callWith_type1 ?_ ho rfl;rw [ho];refine Calls.spliced_cons ?_;refine Call_ (Vf I hgz hmz boot_range (PyProof.Rows.callWith_type1 (thn (ha pos2 pins s σ H _ I h) λus s1 ⟨vs,H1,I1,r1,q1⟩ => ?_) hs rfl));obtain⟨n,e,hz,q⟩:=q1;subst e;cases r1 with
 |cons r rr=>
  cases rr;obtain⟨t,rfl⟩:=r;refine call_range_1 ?_;refine Calls.spliced_nil ?_;have hsz:Builtin.Range.rangeSize 0 (n:Int) 1=(n:Nat):=by rw [rangeSize_one];split<;>omega
  refine call_list_range (I1.ok.hd hcm) (Heap.get?_push_size _ rfl) (small_one (by omega) (by omega) (by omega) (by omega)) hsz (by omega) λh' tk acc c k3 hS hacc => ?_
  have k:∀b o,s1.heap.get? b=some o->h'.get? b=some o:=λb o e=>k3 b o (Heap.get?_push_of_some _ e)
  have hge:s1.heap.objs.size<=(s1.heap.push { cls := .type "range",data := .fields #[.int 0 s1.toks,.int (n:Int) t,.int 1 (s1.toks+1)] }).objs.size:=by rw [Heap.size_push];exact Nat.le_succ _
  refine⟨.ref (s1.heap.push { cls := .type "range",data := .fields #[.int 0 s1.toks,.int (n:Int) t,.int 1 (s1.toks+1)] }).objs.size,_,I1.laid (t':=tk) k hge (show ObjOk X.prog X.w _ h' _ (.lst _)from⟨?_,acc.toList,c,ZeP acc.toList n (by simpa using hacc.1) λj v hj=>hacc.2 j v (by simpa using hj),hS⟩),rfl,q _ (I1.hok.fresh hge)⟩;rw [List.length_map,List.length_range,sizeLine_eq]
  omega
end L2
namespace DL
open PySem PySem.Spec L2
def Qp(a:Env->Option (List D))(δ:Env):Option D:=match a δ with
 |some [.int n]=>if 0<=n/\n<=1000000 then some (.lst ((List.range n.toNat).map λk:Nat=>D.int (k:Int)))else none
 |_=>none
theorem Zcm{G:Cn}{ow:List Nat}{ta:TA}{q:Ql}{a:Env->Option (List D)}(h:VA G ow ta q a):VF G ow (ZbV ta) (Qp a):=λH0 av A σ H δ E d e Q k=>by
 unfold Qp at e
 split at e
 · rename_i n ex
   by_cases hz:0<=n/\n<=1000000
   · rw [if_pos hz]at e
     cases e;refine h H0 av A σ H δ E _ ex _ λvs H1 s1 r1 => ?_
     refine⟨n.toNat,?_,by omega,λl hl=>k l _ _ H1 s1 hl ?_ rfl⟩
     · rw [Int.toNat_of_nonneg hz.1]
       exact ql1 r1
     · have:=RepL.of_vals (cA:=G.1) (av:=AV av A) (H:=H1) (xs:=(List.range n.toNat).map λk:Nat=>D.int (k:Int)) (by rw [List.all_map];exact List.all_eq_true.mpr λ_ _=>rfl)
       rw [List.map_map]at this;exact this
   · rw [if_neg hz]at e;cases e
 · cases e
end DL
namespace DL
open PySem PySem.Spec L2
section
variable{cA:Kn}{G:Cn}{ow owN owB owC:List Nat}{H0 H H':Hp}{av:Addr->Prop}{A:Nat->Option Addr}{σ:L2.St}{δ:Env}
end
end DL
namespace DL
open PySem PySem.Spec PyProof.Rows L2
section
variable{prog:Program}{w:World}{A:Around}{E:Value->Shared->Prop}{s:Shared}{l:Addr}{xs:Array (Int×Tok)}
theorem Zby {Q:Value->Shared->Prop} (hl:s.heap.IsTuple l (intItems xs))
 (h:∀s₂:Shared,s₂={ s with heap:=s.heap.push { cls := .type "tuple_iterator",data := .fields #[.ref l,.int 0 0] } } ->
   (s₂.heap.IsTupleIter s.heap.objs.size l 0/\s₂.heap.IsTuple l (intItems xs))->(∀b∈[s.heap.objs.size,l],b<s₂.heap.objs.size)->l≠s.heap.objs.size->Q (.ref s.heap.objs.size) s₂) :
 wpAny (model prog w) A (pyIter (.ref l)) Q E s:=by
 have hlt:l<s.heap.objs.size:=by obtain⟨_,e,_⟩:=hl;exact Heap.lt_size e
 refine wpAny_pyIter_tuple hl (h _ rfl ⟨⟨_,Heap.get?_push_size _ rfl,rfl,rfl⟩,hl.push _⟩ (λb hb => ?_) (Nat.ne_of_lt hlt));show b<(s.heap.push _).objs.size;rw [Heap.size_push];rcases List.mem_cons.mp hb with rfl|hb
 · exact Nat.lt_succ_self _
 · rcases List.mem_cons.mp hb with rfl|hb
   · exact Nat.lt_succ_of_lt hlt
   · cases hb
theorem Zd3 {h':Heap} (hk:∀b o,b∉[s.heap.objs.size]->(s.heap.push { cls := .type "tuple_iterator",data := .fields #[.ref l,.int 0 0] }).get? b=some o->h'.get? b=some o) :
 ∀b o,s.heap.get? b=some o->h'.get? b=some o:=λb o e=>by
 refine hk b o (λhm => ?_) (Heap.get?_push_of_some _ e);rcases List.mem_cons.mp hm with e1|hm
 · exact absurd (e1▸Heap.lt_size e) (Nat.lt_irrefl _)
 · cases hm
theorem Zcn {Q:Value->Shared->Prop} (hh:A.handled=none) (hl:s.heap.IsTuple l (intItems xs)) (hne:0<xs.size)
 (h:∀v h' tk,(intItems xs)[argBest (λi j=>decide (numAt xs i<numAt xs j)) (xs.size-1)]? = some v->(∀b o,s.heap.get? b=some o->h'.get? b=some o)->Q v { s with heap:=h',toks:=tk }) :
 wpAny (model prog w) A (call (.builtin "min") [.ref l]) Q E s:=by
 refine call_min_walk (Zby hl λs₂ e st hfp hlI => ?_);subst e;refine⟨_,_,_,_,_,_,_,rfl,Walks.tuple (A:=A.in1) hh _ l hlI (intItems xs),st,hfp,by simpa [intItems]using hne,CmpOf.ints_lt (numAt xs) (λ_ _=>intItems_at),λv h' tk hP hk => ?_⟩;exact h v h' tk (by simpa [intItems]using hP) (Zd3 hk)
end
def ZhA(K:PySem.W.Frag):List V->Hp->VK->Prop:=λxs H Q=>∃(p:Addr) (ns:List Int),xs=[.ref p]/\SqT K H p (ns.map V.int)/\0<ns.length/\Q (.int (Xo ns)) H
def ZhB(K:PySem.W.Frag):List V->Hp->VK->Prop:=λxs H Q=>ZfS K xs H Q\/ZhA K xs H Q
section
variable{X:Cx}{K:PySem.W.Frag}{cA:Kn}
theorem Zd4(hc:X.calm=true):YG X (.builtin "min") (ZhA X.K):=by
 intro pins s σ H xs us Q I rs h;obtain⟨p,ns,rfl,hq,hne,q⟩:=h;obtain⟨u,rfl,rx⟩:=Xj rs;cases rx;obtain⟨its,rv,hl,hz⟩:=I.tuple hq;have hi:=ZaG ns its rv;obtain⟨ys,e⟩:=hi.allInts.items
 have hns:ns=ys.toList.map (·.1):=by
  rw [<-hi.numsOf,<-nums_intItems,<-e]
 have hsz:0<ys.size:=by
  have h3:=hne;rw [hns,List.length_map,Array.length_toList]at h3;exact h3
 rw [e]at hl;refine Zcn (I.ok.hd hc) hl hsz λv h' tk hv hk => ?_
 obtain⟨t,rfl⟩:=intItems_at hv;obtain⟨h1,h2⟩:=argBest_lt (numAt ys) (ys.size-1)
 have hM:=Za2 (ns:=ns) (M:=numAt ys (argBest (λi j=>decide (numAt ys i<numAt ys j)) (ys.size-1))) (by
  rw [hns,numAt_eq];exact getD_mem (by rw [List.length_map,Array.length_toList];omega)) (λa ha=>by
  rw [hns]at ha;obtain⟨j,hj,rfl⟩:=mem_getD ha;rw [List.length_map,Array.length_toList]at hj;rw [<-numAt_eq];exact h2 j (by omega))
 exact⟨.int (Xo ns),H,I.kept hk,⟨t,by rw [hM]⟩,q⟩
theorem Zft(hc:X.calm=true:=by rfl)(hK:X.K=K:=by rfl):YG X (.builtin "min") (ZhB K):=hK▸λpins s σ H xs us Q I rs h=>h.elim (Zd2 hc pins s σ H xs us Q I rs) (Zd4 hc pins s σ H xs us Q I rs)
def minQD:List D->Option D
 | [.tup xs]=>match XA xs with
  |some ns=>if 0<ns.length then some (.int (Xo ns))else none
  |none=>none
 |ds=>minLD ds
theorem Zdc:UG cA (ZhB cA.K) minQD:=λi H ds vs d ha h e Q k=>by
 unfold minQD at e
 split at e
 · rename_i xs
   cases hb:XA xs with
   |none=>rw [hb]at e;cases e
   |some bs=>
    rw [hb]at e;dsimp only at e
    by_cases hz:0<bs.length
    · rw [if_pos hz]at e
      cases e;obtain⟨v,t,rfl,a,ws,rfl,_,rd,l⟩:=il1 h;have ex:=ZaF hb;subst ex;have ev:=l.vals (by rw [List.all_map];exact List.all_eq_true.mpr λ_ _=>rfl);rw [List.map_map]at ev;subst ev;exact .inr ⟨a,bs,rfl,SqT.of rd,hz,k _ H (Same.refl H) rfl⟩
    · rw [if_neg hz]at e;cases e
 · exact .inl (Zgq i H _ vs d ha h e Q k)
end
end DL
namespace DL
open PySem PySem.Spec L2
section
variable{cA:Kn}{G:Cn}{ow:List Nat}
def NewL(H0 H:Hp)(vs:List V):Prop:=∀v∈vs,∃b ws,v = .ref b/\H b=some (.lst ws)/\H0 b=none
theorem NewL.same{H0 H H':Hp}{vs:List V}(h:NewL H0 H vs)(s:Same H H'):NewL H0 H' vs:=λv hv=>let⟨b,ws,e,r,f⟩:=h v hv;⟨b,ws,e,s _ _ r,f⟩
mutual
theorem Rep.kind{av:Addr->Prop}{H H':Hp}:∀{d:D}{v:V},frz d=true->(∀b o,H b=some o->(∀vs,o ≠ .lst vs)->H' b=some o)->Rep cA av H d v->Rep cA av H' d v
 | .non,_,_,_,h=>h
 | .bl _,_,_,_,h=>h
 | .int _,_,_,_,h=>h
 | .str _,_,_,_,h=>h
 | .lst xs,v,hf,k,h=>by cases hf
 | .tup xs,v,hf,k,h=>by
  unfold DL.frz at hf;unfold Rep at h ⊢;obtain⟨a,vs,e,n,r,l⟩:=h;exact⟨a,vs,e,n,k _ _ r (λ_ z=>by cases z),RepL.kind hf k l⟩
 | .obj c ks xs,v,hf,k,h=>by
  unfold DL.frz at hf;unfold Rep at h ⊢;obtain⟨a,dx,vs,e,n,r,z,l⟩:=h;exact⟨a,dx,vs,e,n,k _ _ r (λ_ z=>by cases z),z,RepL.kind hf k l⟩
 | .dct ks xs,v,hf,k,h=>by cases hf
 | .dtt ks xs,v,hf,k,h=>by cases hf
theorem RepL.kind{av:Addr->Prop}{H H':Hp}:∀{xs:List D}{vs:List V},frzL xs=true->(∀b o,H b=some o->(∀vs,o ≠ .lst vs)->H' b=some o)->RepL cA av H xs vs->RepL cA av H' xs vs
 | [],_,_,_,h=>h
 |x::xs,vs,hf,k,h=>by
  unfold DL.frzL at hf;rw [Bool.and_eq_true]at hf;unfold RepL at h ⊢;obtain⟨v,r,e,h1,h2⟩:=h;exact⟨v,r,e,Rep.kind hf.1 k h1,RepL.kind hf.2 k h2⟩
end
structure Turned(H0 H H':Hp)(S:Addr->Prop):Prop where
 else_:∀b,¬S b->H' b=H b
 lst:∀b,S b->∃ws,H' b=some (.lst ws)
 old:∀b,S b->∃ws,H b=some (.lst ws)
 new:∀b,S b->H0 b=none
theorem Turned.kind{H0 H H':Hp}{S:Addr->Prop}(T:Turned H0 H H' S):∀b o,H b=some o->(∀vs,o ≠ .lst vs)->H' b=some o:=λb o e n=>by
 have hs:¬S b:=λz=>by
  obtain⟨ws,w⟩:=T.old b z;rw [w]at e;cases e;exact n ws rfl
 rw [T.else_ b hs];exact e
theorem Turned.same{H0 H H':Hp}{S:Addr->Prop}(T:Turned H0 H H' S)(s:Same H0 H):Same H0 H':=λb o e=>by
 have hs:¬S b:=λz=>by rw [T.new b z]at e;cases e
 rw [T.else_ b hs];exact s b o e
end
end DL
namespace DL
open PySem PySem.Spec L2
section
variable{cA:Kn}{G:Cn}{owN owB owC:List Nat}
theorem Turned.more{H0 H H':Hp}{S S':Addr->Prop}(T:Turned H0 H H' S)(hs:∀b,S b->S' b)(h1:∀b,S' b->∃ws,H b=some (.lst ws))(h2:∀b,S' b->H0 b=none):Turned H0 H H' S':=
 ⟨λb hb=>T.else_ b λz=>hb (hs b z),λb hb=>by
   by_cases z:S b
   · exact T.lst b z
   · rw [T.else_ b z];exact h1 b hb,h1,h2⟩
end
end DL
namespace PySem
open Sem (wp)
open AutoSeq1 (wpAny_loadPart')
theorem Zaa(l:Addr)(items:Array Value)(n:Nat)(dct:Option Addr)(sl:Array (Option Value)) :
 Meets (Builtin.«enumerate.__new__» ⟨[.type "enumerate",.ref l],[]⟩) (λ_ R s=>s.heap.get? l=some { cls := .type "tuple",dict:=dct,data := .seq items n,slots:=sl } /\
  R (.ok (.ret (.ref (s.heap.push { cls := .type "tuple_iterator",data := .fields #[.ref l,.int 0 0] }).objs.size)))
   { s with heap:=(s.heap.push { cls := .type "tuple_iterator",data := .fields #[.ref l,.int 0 0] }).push { cls := .type "enumerate",data := .fields #[.none,.bool false,.ref s.heap.objs.size,rawInt 0,.none,.none] } }):=
 .of_wp λprog w A R s h=>by
  obtain⟨hp,g,d,tk,os⟩:=s;obtain⟨hl,h⟩:=h;have hsub:=sub_enumerate;have hL:Heap.IsTuple (Shared.heap ⟨hp,g,d,tk,os⟩) l items:=⟨_,hl,rfl,n,rfl⟩
  wp_walk using wpAny_loadPart' hl
  refine wpAny_stack_any λst=>wpAny_pure ?_
  split
  · rename_i c _ _ _ _ _
    cases(c == Value.type "enumerate")
    · wp_walk using wpAny_loadPart' hl,wpAny_pyIter_tuple hL
      exact⟨_,rfl,h⟩
    · wp_walk using wpAny_loadPart' hl,wpAny_pyIter_tuple hL
      exact⟨_,rfl,h⟩
  · wp_walk using wpAny_loadPart' hl,wpAny_pyIter_tuple hL
    exact⟨_,rfl,h⟩
section
variable{prog:Program}{w:World}{A:Around}{E:Value->Shared->Prop}{s:Shared}
theorem Zae {l:Addr} {items:Array Value} {Q:Value->Shared->Prop} (hL:s.heap.IsTuple l items)
 (h:∀h',IsEnum h' (s.heap.objs.size+1) s.heap.objs.size 0 .none->h'.IsTupleIter s.heap.objs.size l 0->(∀b o,s.heap.get? b=some o->h'.get? b=some o)->Q (.ref (s.heap.objs.size+1)) { s with heap:=h' }) :
 wpAny (model prog w) A (call (.type "enumerate") [.ref l]) Q E s:=by
 obtain⟨⟨c,dct,dt,sl⟩,hl,hc,n,hd⟩:=hL;replace hc:c = .type "tuple" := hc;replace hd:dt = .seq items n:=hd;subst hc hd;refine callType_new F.called_enumerate (by decide) (F.typeCall_enumerate_1 _) (F.newCall_enumerate_1 _) (λobj=>F.args_object_init_2 obj _) F.entry_enumerate_new (Zaa l items n dct sl) ⟨hl,?_⟩;have hz:(s.heap.push { cls := .type "tuple_iterator",data := .fields #[.ref l,.int 0 0] }).objs.size=s.heap.objs.size+1:=Heap.size_push ..
 show _/\_;rw [hz]
 have he:IsEnum ((s.heap.push { cls := .type "tuple_iterator",data := .fields #[.ref l,.int 0 0] }).push { cls := .type "enumerate",data := .fields #[.none,.bool false,.ref s.heap.objs.size,rawInt 0,.none,.none] }) (s.heap.objs.size+1) s.heap.objs.size 0 .none:=by
  have:=Heap.get?_push_size (s.heap.push { cls := .type "tuple_iterator",data := .fields #[.ref l,.int 0 0] }) (o:={ cls := .type "enumerate",data := .fields #[.none,.bool false,.ref s.heap.objs.size,rawInt 0,.none,.none] }) rfl;rw [hz]at this;exact this
 exact⟨⟨_,he,rfl⟩,h _ he ⟨_,Heap.get?_push_of_some _ (Heap.get?_push_size _ rfl),rfl,rfl⟩ λb o x=>Heap.get?_push_of_some _ (Heap.get?_push_of_some _ x)⟩
end
end PySem
namespace L2
open PySem PySem.Spec PyProof.Rows
def ZfT(K:PySem.W.Frag)(n0:Nat)(l:Addr):It:=
 ⟨λi H=>∃xs x,SqT K H l xs/\xs[i]? = some x,λi H v H'=>∃x p,(∀xs,SqT K H l xs->xs[i]? = some x)/\H p=none/\v = .ref p/\H'=upd H p (.tup [.int ((n0+i:Nat):Int),x]),λi H=>∃xs,SqT K H l xs/\xs.length<=i⟩
theorem ZeQ{prog:Program}{w:World}{A:Around}(hh:A.handled=none)(it l:Addr)(hne:l≠it)(its:Array Value)(n0:Nat) :
 Draws prog w A it [it,l] (n0+its.size) (λi v=>∃j,i=n0+j/\its[j]? = some v) (λi h=>∃j,i=n0+j/\h.IsTupleIter it l j/\h.IsTuple l its) where
 live:=λi h ⟨j,_,st,_⟩=>let⟨o,ho,_⟩:=st;⟨o,ho⟩
 frame:=λi h h' ⟨j,e,s1,s2⟩ hk=>⟨j,e,s1.at λo q=>hk it (by simp) o q,s2.at λo q=>hk l (by simp) o q⟩
 item:=λi s Q E hi st hQ=>by
  obtain⟨j,rfl,s1,s2⟩:=st;have hj:j<its.size:=by omega
  refine Zbw s1 s2 (x:=its[j]) (by simp [hj]) λh' st' sb => ?_
  exact hQ _ h' s.toks ⟨j,rfl,by simp [hj]⟩ ⟨j+1,by omega,st',s2.extBut sb.extBut hne⟩ sb
 done:=λs Q E st hE=>by
  obtain⟨j,e,s1,s2⟩:=st;exact Zap hh s1 s2 (by rw [show j=its.size by omega];simp) hE
theorem Zd5{prog:Program}{w:World}{A:Around}(hh:A.handled=none)(it l:Addr)(its:Array Value)(n j:Nat)(hj:its.size<=j) :
 Draws prog w A it [it,l] n (λ_ _=>False) (λi h=>i=n/\h.IsTupleIter it l j/\h.IsTuple l its) where
 live:=λi h ⟨_,st,_⟩=>let⟨o,ho,_⟩:=st;⟨o,ho⟩
 frame:=λi h h' ⟨e,s1,s2⟩ hk=>⟨e,s1.at λo q=>hk it (by simp) o q,s2.at λo q=>hk l (by simp) o q⟩
 item:=λi s Q E hi st hQ=>absurd st.1 (by omega)
 done:=λs Q E st hE=>Zap hh st.2.1 st.2.2 (by simp [hj]) hE
theorem Zco{P:Program}{w:World}{K:PySem.W.Frag}{elts:List Expr}{x1:Nat}{tpos:Pos}(e it l:Addr)(hne:e≠it)(n0:Nat) :
 Turn P w K (.Tuple elts x1 tpos) (ZfT K n0 l) [e,it] e (λi h=>(∃old,IsEnum h e it ((n0+i:Nat):Int) old)/\h.IsTupleIter it l i) where
 mem:=by simp
 obj:=λi h st b hb=>by
  obtain⟨⟨old,he⟩,o,ho,hc,hd⟩:=st;simp at hb;rcases hb with rfl|rfl
  · exact ⟨_, he, fun v z => by
     have z':Data.fields _=Data.cell v:=z;cases z'⟩
  · exact⟨o,ho,λv z=>by rw [hd]at z;cases z⟩
 keep:=λi h h' st k=>by
  obtain⟨⟨old,he⟩,s1⟩:=st;exact⟨⟨old,k e (by simp) _ he⟩,s1.at λo q=>k it (by simp) o q⟩
 item:=by
  intro X hP hw hK hc i pins s σ H E I hf st hg;subst hP hw hK;obtain⟨⟨old,he⟩,st⟩:=st;obtain⟨xs,x,hq,hx⟩:=hg;obtain⟨its,rv,p,hz⟩:=I.tuple hq;obtain⟨u,hu,ru⟩:=rv.get hx;have hi:i<its.length:=(List.getElem?_eq_some_iff.mp hu).1;obtain⟨e0,e1,e2,e3,e4,e5⟩:=hf e (by simp);obtain⟨f0,f1,f2,f3,f4,f5⟩:=hf it (by simp)
  have hLe:l≠e:=by
   rintro rfl
   obtain⟨o,ho,hcl,_⟩:=p;have he':s.heap.get? l=some _:=he;rw [he']at ho;cases ho;exact absurd (show Value.type "enumerate" = Value.type "tuple" from hcl) (by decide)
  have hLi:l≠it:=by
   rintro rfl
   obtain⟨o,ho,hcl,_⟩:=p;obtain⟨o',ho',hcl',_⟩:=id st;rw [ho]at ho';cases ho';rw [hcl]at hcl';exact absurd hcl' (by decide)
  have D:=ZeQ (prog:=X.prog) (w:=X.w) (A:=X.A.in1) (I.ok.hd hc) it l hLi its.toArray n0;refine wpAny_pyNext_enum_itemD D he ⟨i,rfl,st,p⟩ (by simp;omega) hne (by simp [hne,Ne.symm hLe]) λy h' tk hP ho st' hT hsz hk => ?_
  obtain⟨j,ej,hy⟩:=hP;have ej':j=i:=by omega
  subst ej'
  have hyu:y=u:=by
   have:its[j]? = some y:=by simpa using hy
   rw [hu]at this;exact(Option.some.inj this).symm
  subst hyu;refine⟨_,rfl,wpAny_letOwnedTupleGo_enum ho λh2 he2 hs2 => ?_⟩;have hs2:Heap.SameBut e h' h2:=hs2;have hTl:e<s.heap.objs.size:=Heap.lt_size he;obtain⟨j',ej2,st'',_⟩:=st';have ej3:j'=j+1:=by omega
  subst ej3;have hT2:h2.get? s.heap.objs.size=some { cls := .type "tuple",data := .seq #[.int ((n0+j:Nat):Int) tk,y] }:=(hs2.2 _ (Nat.ne_of_gt hTl)).trans hT;have k2:∀b o,b≠e->b≠it->s.heap.get? b=some o->h2.get? b=some o:=λb o hb hb' q=>(hs2.2 b hb).trans (hk b o hb hb' q)
  have hTn:H s.heap.objs.size=none:=I.hok.fresh (Nat.le_refl _);have neT:∀b o,s.heap.get? b=some o->b≠s.heap.objs.size:=λb o q=>Nat.ne_of_lt (Heap.lt_size q)
  have I2:Inv X pins σ (upd H s.heap.objs.size (.tup [.int ((n0+j:Nat):Int),x])) { s with heap:=h2,toks:=tk+1 }:=by
   refine I.step (g':=s.gens) (d':=s.drawn) (ch:=[e,it]) (λb hb => ?_) (λb o _ _ hcb q _ => ?_) (λb o _ _ hcb q _ => ?_) (λb o hcb q n => ?_) (λb o hcb q => ?_) (λb xs q => ?_) (λb o v q => ?_) (λb ps q => ?_) (λm hm => ?_) (λb o q => ?_) I.bare
   · simp at hb
     rcases hb with rfl|rfl
     · exact⟨e3,e1,e4,e5⟩
     · exact⟨f3,f1,f4,f5⟩
   · simp at hcb
     exact k2 b o hcb.1 hcb.2 q
   · simp at hcb
     exact⟨o.slots,k2 b o hcb.1 hcb.2 q⟩
   · rw [Zs (neT b o q)]
     exact n
   · simp at hcb
     exact⟨o,k2 b o hcb.1 hcb.2 q⟩
   · rw [Zs (YU q hTn)]
     exact q
   · rw [Zs (YU q hTn)]
     exact q
   · exact⟨#[],by rw [Zs (YU q hTn),q];simp⟩
   · obtain⟨o,es,ep,q,r⟩:=hm
     exact⟨o,es,ep,k2 _ o (Ne.symm e1) (Ne.symm f1) q,r⟩
   · by_cases hb:b=s.heap.objs.size
     · subst hb
       rw [ZL]at q;cases q;refine⟨by show 2<=sizeLine;decide,[.int ((n0+j:Nat):Int) tk,y],.cons ⟨_,rfl⟩ (.cons ru .nil),?_⟩;exact⟨_,hT2,rfl,⟨_,rfl⟩,rfl⟩
     · rw [Zs hb]at q
       have nn:∀(b:Addr)(o:HO),H b=some o->b≠e/\b≠it:=λb o q=>⟨λz=>(by rw [z,e0]at q;cases q),λz=>(by rw [z,f0]at q;cases q)⟩
       refine(I.hok b o q).stay (λd v hd q' => ?_) (λd q'=>by rw [Zs (YU q' hTn)];exact q') λd xs q'=>by rw [Zs (YU q' hTn)];exact q'
       rcases hd with rfl|hd
       · exact k2 d v (nn d o q).1 (nn d o q).2 q'
       · exact k2 d v (nn d _ hd).1 (nn d _ hd).2 q'
  have he3:IsEnum h2 e it ((n0+(j+1):Nat):Int) y:=by
   have:((n0+(j+1):Nat):Int)=((n0+j:Nat):Int)+1:=by push_cast;omega
   rw [this];exact he2
  refine⟨.ref s.heap.objs.size,_,I2,rfl,⟨x,s.heap.objs.size,λys hy=>by rw [I.tuple_inj hy hq];exact hx,hTn,rfl,rfl⟩,⟨⟨_,he3⟩,?_⟩,λb hb => ?_⟩
  · obtain⟨o,ho',r⟩:=st''
    exact⟨o,(hs2.2 it (Ne.symm hne)).trans ho',r⟩
  · simp at hb
    rcases hb with rfl|rfl
    · rw [Zs (Nat.ne_of_lt hTl)];exact e0
    · obtain⟨o,ho',_⟩:=st
      rw [Zs (neT _ o ho')];exact f0
 done:=by
  intro X hP hw hK hc i pins s σ H E I hf st hg;subst hP hw hK;obtain⟨⟨old,he⟩,st⟩:=st;obtain⟨xs,hq,hx⟩:=hg;obtain⟨its,rv,p,hz⟩:=I.tuple hq;have hl:=rv.length;obtain⟨f0,f1,f2,f3,f4,f5⟩:=hf it (by simp);have D:=Zd5 (prog:=X.prog) (w:=X.w) (A:=X.A.in1) (I.ok.hd hc) it l its.toArray (n0+i) i (by simp;omega);exact wpAny_pyNext_enum_endD D he ⟨rfl,st,p⟩ λh' eb=>⟨rfl,I.turned (t':=s.toks) (λb o hb q=>eb b o hb q) f0 f1 f3 f4 f5⟩
 self:=λ_ _ _ _ _ st h=>by
  obtain⟨⟨old,he⟩,_⟩:=st;exact wpAny_pyIter_enum he h
section
variable{X:Cx}{elts:List Expr}{x1:Nat}{tpos:Pos}
def Zfu(K:PySem.W.Frag)(ta:TA):TI:=λσ H R=>ta σ H λvs H1=>∃l xs,vs=[.ref l]/\SqT K H1 l xs/\R (ZfT K 0 l) H1
theorem ZeR {K:PySem.W.Frag} {a:Expr} {ta:TE} {po pos:Pos} (hg:Gl X "enumerate") (hm:X.mg "enumerate" = none) (ha:PE X a ta) (hs:starEach [a] X.env=[(false,eval a X.env)]:=by rfl) (hK:X.K=K:=by rfl) :
 PI X (.Tuple elts x1 tpos) (.Call (.Name "enumerate" po) [a] [] pos) (Zfu K (VN ta tNil)):=by
 subst hK;intro pins s σ H R I h;refine Call_ (Vf I hg hm boot_enumerate (PyProof.Rows.callWith_type1 (thn ((Ze ha Zj hs) pos pins s σ H _ I h) λus s1 ⟨vs,H1,I1,r1,q1⟩ => ?_) (by rw [hs];rfl) (by rfl)));obtain⟨l,xs,ev,hq,q⟩:=q1;subst ev;obtain⟨w1,rfl,rx⟩:=Xj r1;cases rx;obtain⟨its,rv,pl,hz⟩:=I1.tuple hq;refine Zae pl λh' he st k => ?_
 refine wpAny_pyIter_enum he ?_;have I3:Inv X pins σ H1 { s1 with heap:=h' }:=I1.kept (t':=s1.toks) k;refine⟨s1.heap.objs.size+1,[s1.heap.objs.size+1,s1.heap.objs.size],_,_,H1,rfl,I3,Zco (s1.heap.objs.size+1) s1.heap.objs.size l (Nat.succ_ne_self _) 0,⟨⟨_,he⟩,st⟩,λb hb => ?_,q⟩
 have hb':s1.heap.objs.size<=b:=by
  simp at hb;rcases hb with rfl|rfl
  · exact Nat.le_succ _
  · exact Nat.le_refl _
 exact I1.fpOk hb' (I1.hok.fresh hb')
end
end L2
namespace DL
open PySem PySem.Spec L2
section
variable{cA:Kn}{G:Cn}{ow:List Nat}
def Qq(ε:Env->Option D)(δ:Env):Option (List D):=match ε δ with
 |some (.tup xs)=>some (Xc 0 xs)
 |_=>none
theorem Zbz{iv:Addr->Prop}{H0:Hp}{a:Addr}{vs:List V}{xs:List D}{n0:Nat}(rd:SqT cA.K H0 a vs)(l:RepL cA iv H0 xs vs):Uc cA iv (ZfT cA.K n0 a) (Xc n0 xs) H0:=λH s=>by
 have rd':SqT cA.K H a vs:=ZeK (k:=true) s rd;refine⟨λi hi => ?_,λi x v H' hx y => ?_,λi hi=>⟨vs,rd',by rw [Q3]at hi;rw [<-l.length];exact hi⟩⟩
 · rw [Q3]at hi
   obtain⟨v,hv,_⟩:=l.get (List.getElem?_eq_getElem hi);exact⟨vs,v,rd',hv⟩
 · obtain⟨z,p,hy,hp,rfl,rfl⟩:=y
   rw [Za0]at hx;cases hxi:xs[i]? with
   |none=>rw [hxi]at hx;cases hx
   |some d=>
    rw [hxi]at hx;cases hx;obtain⟨v',hv,r⟩:=l.get hxi;rw [hy vs rd']at hv;cases hv;refine⟨Yb hp,λav' h1 h2 => ?_⟩;unfold Rep;exact⟨p,_,rfl,λz=>h1 p z hp,ZL,.cons rfl (.cons (((r.av h2).same s).same (Yb hp)) .nil)⟩
theorem ZeS{ta:TE}{ε:Env->Option D}(h:VE G ow ta .cl ε):VI G ow (Zfu G.1.K (VN ta tNil)) (Qq ε):=λH0 av A σ H δ E xs e R k=>by
 unfold Qq at e;cases he:ε δ with
 |none=>rw [he]at e;cases e
 |some d=>
  rw [he]at e;cases d<;>first|(cases e;done)|skip
  cases e;refine h H0 av A σ H δ E _ he _ λv H1 s r => ?_
  obtain⟨a,vs,rfl,na,rd,l⟩:=r;exact⟨a,vs,rfl,SqT.of rd,k _ H1 s (Zbz (SqT.of (by rw [Vn λ⟨i,z⟩=>na (.inr ⟨i,z⟩)];exact rd)) l.cut)⟩
end
end DL
namespace DL
open PySem PySem.Spec L2
section
variable{cA:Kn}{G:Cn}{ow owB owC:List Nat}
def Uj:D->D->Option D
 | .lst a,.lst b=>addX (.lst a) (.lst b)
 |_,_=>none
theorem Zfv{ta tb:TE}{a b:Env->Option D}(ha:VE G ow ta .cl a)(hb:VE G ow tb .cl b):VF G ow (tOp (Qh G.1.K) ta tb) (eOp Uj a b):=λH0 av A σ H δ E d e Q k=>by
 obtain⟨x,y,ex,ey,ed⟩:=V9 e;unfold Uj at ed
 split at ed
 · rename_i xs ys
   dsimp only [addX]at ed
   by_cases hz:xs.length+ys.length<=sizeLine
   · rw [if_pos hz]at ed
     cases ed;refine ha H0 av A σ H δ E _ ex _ λv H1 s1 r1=>hb H0 av A σ H1 δ (E.mono s1) _ ey _ λw H2 s2 r2 => ?_
     obtain⟨a1,vs1,rfl,na,rd,l1⟩:=r1;obtain⟨a2,vs2,rfl,nb,rd2,l2⟩:=r2;refine .inr (.inr ⟨a1,a2,vs1,vs2,rfl,rfl,s2.seq rd,rd2,by rw [<-l1.length,<-l2.length];exact hz,λp hp=>k p _ _ H2 (s1.trans s2) hp ((l1.same s2).append l2) rfl⟩)
   · rw [if_neg hz]at ed;cases ed
 · cases ed
end
end DL
namespace DL
open PySem PySem.Spec L2 PyProof.Rows
section
variable{X:Cx}{cA:Kn}
open Classical in
end
section
variable{prog:Program}{w:World}{A:Around}{E:Value->Shared->Prop}{s:Shared}{l:Addr}{xs:Array (Int×Tok)}
end
section
variable{X:Cx}{K:PySem.W.Frag}{cA:Kn}
end
end DL
namespace L2
open PySem PySem.Spec PyProof.Rows Builtin Builtin.Str
section
variable{X:Cx}
end
end L2
namespace DL
open PySem PySem.Spec L2
variable{cA:Kn}
end DL
namespace DL
open PySem PySem.Spec L2
section
variable{cA:Kn}{G:Cn}{ow owN owB owC:List Nat}
inductive NewD(H0 H:Hp):List D->List V->Prop
 |nil:NewD H0 H [] []
 |cons {xs ds:List D} {vs ws:List V} {b:Addr} (h:H b=some (.lst ws)) (h0:H0 b=none) (hl:ws.length=ds.length) (r:NewD H0 H xs vs):NewD H0 H (.lst ds::xs) (.ref b::vs)
theorem NewD.same{H0 H H':Hp}(s:Same H H'):∀{xs:List D}{vs:List V},NewD H0 H xs vs->NewD H0 H' xs vs
 |_,_,.nil => .nil
 |_,_,.cons h h0 hl r => .cons (s _ _ h) h0 hl (NewD.same s r)
structure Hd(H HE H':Hp)(p0 p1 b0:Addr)(r1:List V):Prop where
 same:Same H H'
 kind:∀b o,HE b=some o->(∀vs,o ≠ .lst vs)->H' b=some o
 l0:∃v ws,H' p0=some (.lst (v::ws))
 l1:∃v ws,H' b0=some (.lst (v::ws))
 lp:H' p1=some (.lst (.ref b0::r1))
end
end DL
namespace L2
open PySem PySem.Spec PyProof.Rows
section
variable{prog:Program}{w:World}{A:Around}{E:Value->Shared->Prop}{s:Shared}{d it:Addr}{es:Array DictEntry}{ep i:Nat}{o:Obj}
theorem Zgr {Q:Value->Shared->Prop} (hs:(d == sysModules)=false) (g:s.heap.get? d=some o) (x:o.ExactDict) (q:o.data = .dict es ep)
 (k:Q (.ref s.heap.objs.size) { s with heap:=s.heap.push { cls := .type "dict_keyiterator",data := .fields #[.ref d,.int 0 0,.int es.size 0,.int ep 0] } }):wpAny (model prog w) A (pyIter (.ref d)) Q E s:=by
 have T:s.TypeIs (.ref d) "dict" := ⟨o,g,x.1⟩
 refine wpAny_pyIter_slot T PySem.F.slot_dict_iter (wpAny_call_entry PySem.F.slot_dict_iter T PySem.F.entry_dict_iter ?_ (PySem.F.args_dict_iter_1 _));unfold Builtin.«dict.__iter__» Builtin.Dict.dictSlotNone;refine wpAny_bind (wpAny_bind (wpAny_notOrdered_dict T (wpAny_pure ?_)));show wpAny _ _ (Builtin.Dict.showsAll d >>= λ_=>_) _ _ s;unfold Builtin.Dict.showsAll;rw [hs];refine wpAny_bind (wpAny_pure (wpAny_bind (wpAny_dictEntries g q (wpAny_bind (wpAny_dictEpoch g q ?_)))))
 exact wpAny_bind (wpAny_newObj_type (wpAny_pure ⟨_,rfl, "dict_keyiterator",_,⟨_,Heap.get?_push_size _ rfl,rfl⟩,PySem.F.slot_dict_keyiterator_next.lookup,by simpa [rawInt]using k⟩))
theorem Zgs {Q:Option Value->Shared->Prop} (t:s.heap.IsKeyIter it d i es.size ep) (g:s.heap.get? d=some o) (q:o.data = .dict es ep) (hlt:i<es.size)
 (k:∀h',h'.IsKeyIter it d (i+1) es.size ep->Heap.SameBut it s.heap h'->Q (some es[i].key) { s with heap:=h' }):wpAny (model prog w) A (pyNext (.ref it)) Q E s:=by
 obtain⟨oi,gi,ci,qi⟩:=id t;have own:Builtin.Dict_items.ownsTuple "dict_keyiterator" = false:=by decide
 unfold pyNext;refine wpAny_bind (wpAny_attempt (wpAny_callSpecial?_slot (name:=Str.ofString "__next__") t.typeIs PySem.F.slot_dict_keyiterator_next (wpAny_call_entry PySem.F.slot_dict_keyiterator_next t.typeIs PySem.F.entry_dict_keyiterator_next ?_ (PySem.F.args_dict_keyiterator_next_1 _))));refine wpAny_bind (wpAny_pure (wpAny_bind (wpAny_bind (wpAny_bind (wpAny_typeNameOfWhole_keyiter t.typeIs (wpAny_pure (wpAny_bind (wpAny_fieldsOf gi qi ?_))))))))
 simp only [own,Bool.false_eq_true,if_false];show wpAny _ _ (if(Value.ref d == Value.none)=true then _ else _) _ _ s;rw [if_neg (λz=>nomatch z)];refine wpAny_bind (wpAny_pure (wpAny_bind (wpAny_dictEntries g q ?_)));rw [if_neg (by simp)];refine wpAny_bind (wpAny_pure (wpAny_bind (wpAny_dictEpoch g q ?_)));rw [if_neg (by simp)];refine wpAny_pure ?_;have h0:¬((i:Int)<0):=by omega
 simp only [h0,if_false,Int.toNat_natCast,Array.getElem?_eq_getElem hlt];refine wpAny_bind (wpAny_bind (wpAny_typeNameOfWhole_keyiter t.typeIs (wpAny_pure (wpAny_bind (wpAny_isOneOf_keyiter t.typeIs ?_)))));show wpAny _ _ (setField (.ref it) 1 (rawInt ((i:Int)+1)) >>= λ_=>_) _ _ s;refine wpAny_bind (wpAny_setField gi qi (by simp) ?_)
 have t':(s.heap.update it (Obj.mapFields (·.setIfInBounds 1 (rawInt ((i:Int)+1))))).IsKeyIter it d (i+1) es.size ep:=
  ⟨_,Heap.get?_update_self _ gi (Obj.isFreed_of_fields (Obj.data_mapFields qi _)),(Obj.cls_mapFields ..).trans ci,by rw [Obj.data_mapFields qi];simp [rawInt]⟩
 refine wpAny_bind (wpAny_holding (wpAny_bind (wpAny_isOneOf_keyiter (s:={ s with heap:=s.heap.update it (Obj.mapFields (·.setIfInBounds 1 (rawInt ((i:Int)+1)))) }) t'.typeIs ?_)));exact wpAny_pure (wpAny_pure ⟨_,rfl,wpAny_pure (k _ t' (Heap.SameBut.update ..))⟩)
theorem Zic {Q:Option Value->Shared->Prop} (hh:A.handled=none) (t:s.heap.IsKeyIter it d i es.size ep) (g:s.heap.get? d=some o) (q:o.data = .dict es ep) (hge:es.size<=i)
 (k:∀h',Heap.ExtBut it s.heap h'->Q none { s with heap:=h' }):wpAny (model prog w) A (pyNext (.ref it)) Q E s:=by
 obtain⟨oi,gi,ci,qi⟩:=id t;have own:Builtin.Dict_items.ownsTuple "dict_keyiterator" = false:=by decide
 unfold pyNext;refine wpAny_bind (wpAny_attempt (wpAny_callSpecial?_slot (name:=Str.ofString "__next__") t.typeIs PySem.F.slot_dict_keyiterator_next (wpAny_call_entry PySem.F.slot_dict_keyiterator_next t.typeIs PySem.F.entry_dict_keyiterator_next ?_ (PySem.F.args_dict_keyiterator_next_1 _))));refine wpAny_bind (wpAny_pure (wpAny_bind (wpAny_bind (wpAny_bind (wpAny_typeNameOfWhole_keyiter t.typeIs (wpAny_pure (wpAny_bind (wpAny_fieldsOf gi qi ?_))))))))
 simp only [own,Bool.false_eq_true,if_false];show wpAny _ _ (if(Value.ref d == Value.none)=true then _ else _) _ _ s;rw [if_neg (λz=>nomatch z)];refine wpAny_bind (wpAny_pure (wpAny_bind (wpAny_dictEntries g q ?_)));rw [if_neg (by simp)];refine wpAny_bind (wpAny_pure (wpAny_bind (wpAny_dictEpoch g q ?_)));rw [if_neg (by simp)];refine wpAny_pure ?_;have h0:¬((i:Int)<0):=by omega
 simp only [h0,if_false,Int.toNat_natCast,Array.getElem?_eq_none hge];refine wpAny_bind (wpAny_bind (wpAny_typeNameOfWhole_keyiter t.typeIs (wpAny_pure ?_)));show wpAny _ _ (setField (.ref it) 0 .none >>= λ_=>_) _ _ s;refine wpAny_bind (wpAny_setField gi qi (by simp) ?_);show wpAny _ _ (newExc (.type "StopIteration") [] >>= λ_=>_) _ _ _;refine wpAny_bind ?_;simp only [newExc,newTuple]
 refine wpAny_bind (wpAny_newObj_type ?_ (by size_fits));refine wpAny_bind (m:=firstArgMember _ _) (wpAny_of_eq (a:=Value.none) (by first|rfl|(simp only [firstArgMember];rfl)) (wpAny_newObj_type ?_ (by size_fits)));simp only [raiseNew];refine wpAny_bind (wpAny_handled ?_);rw [show A.in1.handled=none from hh];refine wpAny_bind (wpAny_pure (wpAny_throw ?_));refine wpAny_bind (wpAny_isInstance (T:="StopIteration") (b:=true) ⟨_,Heap.get?_push_size _ rfl,rfl⟩ isSubtype_stop ?_)
 exact wpAny_pure (k _ (((Heap.SameBut.update ..).extBut.push _).push _))
end
theorem HOk.swap{P:Program}{w:World}{H:Hp}{h:Heap}{d:Addr}{u u':HO}(ok:HOk P w H h)(e:H d=some u)(n1:∀xs,u ≠ .tup xs)(n2:∀y,u ≠ .own y)(new:ObjOk P w (upd H d u') h d u'):HOk P w (upd H d u') h:=λb v q=>by
 by_cases hb:b=d
 · subst hb;rw [ZL]at q;cases q;exact new
 · rw [Zs hb]at q
   refine(ok b v q).stay (λ_ _ _ r=>r) (λc r => ?_) λc xs r => ?_
   · rw [Zs λz=>by subst z;rw [e]at r;exact n2 _ (Option.some.inj r)];exact r
   · rw [Zs λz=>by subst z;rw [e]at r;exact n1 _ (Option.some.inj r)];exact r
theorem Inv.swap {X:Cx} {pins:List (Addr×Obj)} {σ:St} {H:Hp} {s:Shared} {d:Addr} {u u':HO} (I:Inv X pins σ H s) (e:H d=some u) (n1:∀xs,u ≠ .tup xs) (n2:∀y,u ≠ .own y) (n3:∀ps,u ≠ .tbl ps)
 (nf:∀o v,X.H₀ d≠some (.frz o v)) (new:ObjOk X.prog X.w (upd H d u') s.heap d u'):Inv X pins σ (upd H d u') s:=by
 have nd:∀b,H b=none->upd H d u' b=none:=λb z=>by
  rw [Zs λy=>by subst y;rw [e]at z;cases z];exact z
 refine⟨I.ok,I.os,I.bare,⟨I.base.keep,I.base.slot,λb o q n hx=>nd b (I.base.free b o q n hx),I.base.there,λb xs q => ?_,λb o v q => ?_,λb ps q => ?_⟩,I.loc,I.cell,nd _ I.free,λx c q=>nd c (I.freeC x c q),λp hp => ?_,I.hok.swap e n1 n2 new,I.len⟩
 · have:=I.base.tups b xs q
   rw [Zs λy=>by subst y;rw [e]at this;exact n1 _ (Option.some.inj this)];exact this
 · rw [Zs λy=>by subst y;exact nf _ _ q];exact I.base.frzs b o v q
 · obtain⟨more,this⟩:=I.base.tbls b ps q
   exact⟨more,by rw [Zs λy=>by subst y;rw [e]at this;exact n3 _ (Option.some.inj this)];exact this⟩
 · obtain⟨a1,a2,a3⟩:=I.pin p hp
   exact⟨a1,nd _ a2,a3⟩
def Itk(d:Addr)(o:Obj)(kvs:List (List Key×V)):It:=⟨λi H=>H d=some (.frz o (.dT kvs))/\i<kvs.length,λi H v H'=>H'=H/\∃ka k x,kvs[i]? = some (k,x)/\v = .ref ka/\H ka=some (.tup (k.map kV)),λi H=>H d=some (.frz o (.dT kvs))/\kvs.length<=i⟩
theorem Zfw{P:Program}{w:World}{H:Hp}{h:Heap}{d:Addr}{o:Obj}{kvs:List (List Key×V)}(ok:HOk P w H h)(e:H d=some (.frz o (.dT kvs))):h.get? d=some o/\∃es ep,o.ExactDict/\(d == sysModules)=false/\o.data = .dict es ep/\es.size=kvs.length /\
 ∀i(hi:i<es.size),∃ka k x,kvs[i]? = some (k,x)/\es[i].key = .ref ka/\H ka=some (.tup (k.map kV)):=by
 obtain⟨g,z,y,xs,r,ob,es,ep,g2,x,q,he,_⟩:=(show ObjOk P w H h d (.frz o (.dT kvs))from ok d _ e)
 rw [g]at g2;cases g2;have hl:xs.length=kvs.length:=(Paired.length r).symm;have hz:es.size=kvs.length:=by rw [<-hl,<-Array.length_toList,he,List.length_map]
 refine⟨g,es,ep,x,y,q,hz,λi hi => ?_⟩;have hx:i<xs.length:=by omega
 have hk:i<kvs.length:=by omega
 have key:∀{l:List (List Key×V)}{m:List (List Key×Addr×Value)}{i:Nat},Paired (λ(p:List Key×V) (q:List Key×Addr×Value)=>p.1=q.1/\H q.2.1=some (.tup (p.1.map kV))/\RelV p.2 q.2.2) l m->(h1:i<l.length)->(h2:i<m.length)->l[i].1=m[i].1/\H m[i].2.1=some (.tup (l[i].1.map kV)):=λ{l m i} r=>by
  induction r generalizing i with
  |nil=>intro h1;exact absurd h1 (Nat.not_lt_zero _)
  |cons a _ ih=>
   intro h1 h2;cases i with
   |zero=>exact⟨a.1,a.2.1⟩
   |succ i=>exact ih (by simpa using h1) (by simpa using h2)
 refine⟨xs[i].2.1,kvs[i].1,kvs[i].2,List.getElem?_eq_getElem hk,?_,(key r hk hx).2⟩;have:es.toList[i]'(by rw [Array.length_toList];exact hi)=entryOfKey (tupleKind (YT P w)) xs[i]:=by simp [he]
 rw [<-Array.getElem_toList,this];rfl
theorem Zd6{P:Program}{w:World}{K:PySem.W.Frag}{tg:Expr}(it d:Addr)(o:Obj)(es:Array DictEntry)(ep:Nat)(kvs:List (List Key×V))(hq:o.data = .dict es ep)(hz:es.size=kvs.length):Turn P w K tg (Itk d o kvs) [it] it (λi h=>h.IsKeyIter it d i es.size ep) where
 mem:=by simp
 obj:=λi h st b hb=>by
  have e:b=it:=by simpa using hb
  subst e;obtain⟨o,e,c,q⟩:=st;exact⟨o,e,λv z=>by rw [q]at z;cases z⟩
 keep:=λi h h' st k=>by
  obtain⟨o,e,r⟩:=st;exact⟨o,k it (by simp) o e,r⟩
 item:=by
  intro X hP hw hK hc i pins s σ H E I hf st hg;subst hP hw hK;obtain⟨f0,f1,f2,f3,f4,f5⟩:=hf it (by simp);obtain⟨hd,hi⟩:H d=some (.frz o (.dT kvs))/\i<kvs.length:=hg;obtain⟨g,es',ep',x,_,q,_,all⟩:=Zfw I.hok hd;rw [hq]at q;cases q;have hi':i<es.size:=by omega
  obtain⟨ka,k,y,e1,e2,e3⟩:=all i hi';refine Zgs st g hq hi' λh' st' sb => ?_
  rw [e2];have I1:Inv X pins σ H { s with heap:=h' }:=I.turned (t':=s.toks) (λb o hb e=>(sb.2 b hb).trans e) f0 f1 f3 f4 f5;exact⟨_,rfl,letGo_keyiter st' ⟨.ref ka,H,I1,rfl,⟨rfl,ka,k,y,e1,rfl,e3⟩,st',λb hb=>(hf b hb).1⟩⟩
 done:=by
  intro X hP hw hK hc i pins s σ H E I hf st hg;subst hP hw hK;obtain⟨f0,f1,f2,f3,f4,f5⟩:=hf it (by simp);obtain⟨hd,hi⟩:H d=some (.frz o (.dT kvs))/\kvs.length<=i:=hg;obtain⟨g,es',ep',x,_,q,_,all⟩:=Zfw I.hok hd;exact Zic (I.ok.hd hc) st g hq (by omega) λh' eb=>⟨rfl,I.turned (t':=s.toks) (λb o hb e=>eb b o hb e) f0 f1 f3 f4 f5⟩
 self:=λ_ i _ _ _ st h=>wpAny_pyIter_keyiter st h
def ZfU(NF:Addr->Prop)(tl:TE):TI:=λσ H R=>tl σ H λx H1=>∃d kvs,x = .ref d/\H1 d=some (.dT kvs)/\∀o,NF d->R (Itk d o kvs) (upd H1 d (.frz o (.dT kvs)))
section
variable{X:Cx}{tg:Expr}
theorem Zdd{l:Expr}{tl:TE}{NF:Addr->Prop}(hl:PE X l tl)(hN:∀d,(∀o v,X.H₀ d≠some (.frz o v))->NF d):PI X tg l (ZfU NF tl):=by
 intro pins s σ H R I h;refine thn (hl pins s σ H _ I h) λv s1 ⟨x,H1,I1,r1,q1⟩ => ?_
 obtain⟨d,kvs,e,hd,q⟩:=q1;subst e;cases r1
 have nf:∀o v,X.H₀ d≠some (.frz o v):=λo v z=>by
  have:=I1.base.frzs d o v z;rw [hd]at this;cases this
 obtain⟨o,es,ep,g,x,hq,hm,hz⟩:∃o es ep,s1.heap.get? d=some o/\o.ExactDict/\o.data = .dict es ep/\(d == sysModules)=false/\es.size=kvs.length:=by
  obtain⟨z,y,xs,r,ob,es,ep,g2,x,q,he,_⟩:=(show ObjOk X.prog X.w H1 s1.heap d (.dT kvs)from I1.hok d _ hd)
  exact⟨ob,es,ep,g2,x,q,y,by rw [<-Array.length_toList,he,List.length_map];exact(Paired.length r).symm⟩
 have I2:Inv X pins σ (upd H1 d (.frz o (.dT kvs))) s1:=I1.swap hd (λ_ z=>by cases z) (λ_ z=>by cases z) (λ_ z=>by cases z) nf ⟨g,(I1.hok d _ hd).stay (λ_ _ _ r=>r) (λc r=>by rw [Zs λz=>by subst z;rw [hd]at r;cases r];exact r) λc xs r=>by rw [Zs λz=>by subst z;rw [hd]at r;cases r];exact r⟩;refine Zgr hm g x hq ?_;refine⟨s1.heap.objs.size,[s1.heap.objs.size],_,_,_,rfl,I2.kept (t':=s1.toks) λb o e=>Heap.get?_push_of_some _ e,Zd6 _ d o es ep kvs hq hz,⟨_,Heap.get?_push_size _ rfl,rfl,rfl⟩,λb hb => ?_,q o (hN d nf)⟩
 have e:b=s1.heap.objs.size:=by simpa using hb
 subst e;exact I2.fpOk (Nat.le_refl _) (I2.hok.fresh (Nat.le_refl _))
def ZhC(tl:TE)(g:TG)(tb:TS):TS:=λD σ H=>∀NF:Addr->Prop,JC (ZfU NF tl) g tb { D with nx:=λσ' H'=>∃d o kvs,H' d=some (.frz o (.dT kvs))/\NF d/\D.nx σ' (upd H' d (.dT kvs)) } σ H
theorem Zgt {iter:Expr} {body:List Stmt} {tl:TE} {g:TG} {tb:TS} {pos:Pos} (hp:PassesOwn (model X.prog X.w) X.A X.env X.xe) (hc:X.calm=true) (hl:PE X iter tl) (hg:PG X tg g) (hb:PSs X body tb)
 (hs:∀x,foldedSetIterable iter X.env x=pure x:=by intro _;rfl):PS X (.For tg iter body [] pos) (ZhC tl g tb):=by
 intro pins s σ H D I h;have h1:=Yh (pos:=pos) hp hc (Zdd (tg:=tg) (NF:=λd=>∀o v,X.H₀ d≠some (.frz o v)) hl λ_ z=>z) hg hb hs pins s σ H _ I (h λd=>∀o v,X.H₀ d≠some (.frz o v));refine thn h1 λf s' q => ?_
 cases f with
 |next=>
  obtain⟨σ',H',I',d,o,kvs,hd,nf,q7⟩:=q;exact⟨σ',_,I'.swap hd (λ_ z=>by cases z) (λ_ z=>by cases z) (λ_ z=>by cases z) nf ((I'.hok d _ hd).2.stay (λ_ _ _ r=>r) (λc r=>by rw [Zs λz=>by subst z;rw [hd]at r;cases r];exact r) λc xs r=>by rw [Zs λz=>by subst z;rw [hd]at r;cases r];exact r),q7⟩
 |_=>exact q
end
end L2
namespace DL
open PySem PySem.Spec L2
def Uk:Key->D
 | .inl i => .int i
 | .inr x => .str x.cps.toList
theorem ZeT(k:Key):val (Uk k)=kV k:=by
 cases k with
 |inl i=>rfl
 |inr x=>rfl
theorem Zgu(k:Key):Zx (Uk k)=true:=by cases k<;>rfl
theorem Zd7(ks:List Key):(ks.map Uk).map val=ks.map kV:=by
 rw [List.map_map];exact List.map_congr_left λk _=>ZeT k
theorem ZbW{cA:Kn}{av:Addr->Prop}{H:Hp}(ks:List Key):RepL cA av H (ks.map Uk) (ks.map kV):=by
 rw [<-Zd7];exact .of_vals (by rw [List.all_map];exact List.all_eq_true.mpr λk _=>Zgu k)
section
variable{G:Cn}{ow ow1 owB owC:List Nat}{i:Nat}{H0 H H':Hp}{av:Addr->Prop}{A A':Nat->Option Addr}{σ σ':L2.St}{δ δ':Env}{a:Addr}
theorem Zde(E:ER G ow H0 av A σ H δ)(hA:A i=some a)(hv:σ[i]? = some (some (.ref a)))(hw:∀j,j∈ow1 ↔ j∈ow/\j≠i)(o:HO) :
 ER (G.keep i (.ref a)) ow1 (ovl H0 (upd H a o) [a]) (avF av [a]) (λj=>if j=i then none else A j) σ (upd H a o) (δ.set i none):=by
 have h0:H0 a=none:=E.fr i a hA
 have oj:∀j x,(if j=i then none else A j)=some x->j≠i/\A j=some x/\x≠a:=λj x z=>by
  by_cases q:j=i
  · simp [q]at z
  · simp [q]at z;exact⟨q,z,λy=>q (E.inj j i x z (by rw [hA,y]))⟩
 have av1:∀b,AV (avF av [a]) (λj=>if j=i then none else A j) b ↔ AV av A b:=λb=>by
  constructor
  · rintro((z|z)|⟨j,z⟩)
    · exact .inl z
    · rw [List.mem_singleton.mp z];exact .inr ⟨i,hA⟩
    · exact .inr ⟨j,(oj j b z).2.1⟩
  · rintro(z|⟨j,z⟩)
    · exact .inl (.inl z)
    · by_cases q:j=i
      · subst q
        rw [hA]at z;cases z;exact .inl (.inr (List.mem_singleton.mpr rfl))
      · exact .inr ⟨j,by simp [q];exact z⟩
 have ext:∀b u,¬AV av A b->H b=some u->upd H a o b=some u:=λb u n e=>by
  rw [Zs λz=>n (by rw [z];exact .inr ⟨i,hA⟩)];exact e
 refine⟨λb u e => ?_,λx z => ?_,λj x z => ?_,λj k x e1 e2 => ?_,λj x z => ?_,λj z => ?_,λj hj => ?_,by rw [List.length_set];exact E.len,λj x z => ?_,λj v z => ?_,λj d e => ?_⟩
 · by_cases hb:b=a
   · subst hb;rw [Uf (List.mem_singleton.mpr rfl)]at e;exact e
   · rw [XB (by simpa using hb)]at e
     rw [Zs hb];exact E.same b u e
 · by_cases hx:x=a
   · subst hx;rw [Uf (List.mem_singleton.mpr rfl),ZL];exact λz=>by cases z
   · rw [XB (by simpa using hx)]
     rcases z with z|z
     · exact E.avd x z
     · exact absurd (List.mem_singleton.mp z) hx
 · obtain⟨q,z,n⟩:=oj j x z
   rw [XB (by simpa using n)];exact E.fr j x z
 · obtain⟨q,z,n⟩:=oj j x e1
   exact E.inj j k x z (oj k x e2).2.1
 · obtain⟨q,z,n⟩:=oj j x z
   rw [Zs n];exact E.live j x z
 · by_cases q:j=i
   · simp [q]at z
   · simp [q]at z;exact(hw j).mpr ⟨E.dom j z,q⟩
 · obtain⟨h1,h2⟩:=(hw j).mp hj
   simp [h2];exact E.dom' j h1
 · by_cases q:j=i
   · subst q;rw [Zbi]at z;cases z
   · rw [Vp q]at z
     simp [q];exact E.pin j x z
 · by_cases q:j=i
   · subst q;rw [Zbi]at z;cases z;exact hv
   · rw [Vp q]at z;exact E.kept j v z
 · have q : j ≠ i := fun z => by
    subst z
    by_cases hl:j<δ.length
    · rw [List.getElem?_set_self hl]at e;cases e
    · rw [List.getElem?_eq_none (by rw [List.length_set];omega)]at e;cases e
   rw [List.getElem?_set_ne (Ne.symm q)]at e;obtain⟨v,h1,h2,h3⟩:=E.var j d e;refine⟨v,h1,λz => ?_,λx z => ?_⟩
   · simp [q]at z
     exact((h2 z).ext ext).av λb y => .inl ((av1 b).mp y)
   · obtain⟨_,z,n⟩:=oj j x z
     obtain⟨r1,r2⟩:=h3 x z;refine⟨r1,?_⟩;cases d with
     |lst xs=>obtain⟨vs,q1,q2⟩:=r2;exact⟨vs,by rw [Zs n];exact q1,(q2.ext ext).av λb y => .inl ((av1 b).mp y)⟩
     |obj c ks xs=>obtain⟨dx,vs,q1,q0,q2⟩:=r2;exact⟨dx,vs,by rw [Zs n];exact q1,q0,(q2.ext ext).av λb y => .inl ((av1 b).mp y)⟩
     |dct ks xs=>obtain⟨vs,q1,q0,q2⟩:=r2;exact⟨vs,by rw [Zs n];exact q1,q0,(q2.ext ext).av λb y => .inl ((av1 b).mp y)⟩
     |dtt ks xs=>obtain⟨vs,q1,q0,q2⟩:=r2;exact⟨vs,by rw [Zs n];exact q1,q0,(q2.ext ext).av λb y => .inl ((av1 b).mp y)⟩
     |_=>exact r2
theorem Zgv{H2:Hp}{ks:List (List Key)}{xs:List D}{vs:List V}(E:ER (G.keep i (.ref a)) ow1 (ovl H0 H2 [a]) (avF av [a]) A' σ' H' δ')(h0:H0 a=none)(h2:H2 a≠none)(ha:∀x,av x->H0 x≠none)(hw:∀j,j∈ow ↔ j∈ow1\/j=i)(hi:i∉ow1)(hn:G.2 i=none)(hil:i<δ'.length)(hk:ks.length=xs.length)(l:RepL G.1 (AV (avF av [a]) A') H' xs vs) :
 ER G ow H0 av (λj=>if j=i then some a else A' j) σ' (upd H' a (.dT (ks.zip vs))) (δ'.set i (some (.dtt ks xs))):=by
 have na:∀j x,A' j=some x->x≠a:=λj x e z=>by
  have:=E.fr j x e;subst z;rw [Uf (List.mem_singleton.mpr rfl)]at this;exact h2 this
 have Ai:A' i=none:=by
  cases q:A' i with
  |none=>rfl
  |some x=>exact absurd (E.dom i (by rw [q];exact λz=>by cases z)) hi
 have av1:∀b,AV av (λj=>if j=i then some a else A' j) b->AV (avF av [a]) A' b:=λb z=>by
  rcases z with z|⟨j,z⟩
  · exact .inl (.inl z)
  · by_cases q:j=i
    · simp [q]at z;subst z;exact .inl (.inr (List.mem_singleton.mpr rfl))
    · simp [q]at z;exact .inr ⟨j,z⟩
 have ext:∀b u,¬AV (avF av [a]) A' b->H' b=some u->upd H' a (.dT (ks.zip vs)) b=some u:=λb u n e=>by
  rw [Zs λz=>n (by rw [z];exact .inl (.inr (List.mem_singleton.mpr rfl)))];exact e
 have tr:∀{d:D}{v:V},Rep G.1 (AV (avF av [a]) A') H' d v->Rep G.1 (AV av (λj=>if j=i then some a else A' j)) (upd H' a (.dT (ks.zip vs))) d v:=λr=>(r.ext ext).av λb y => .inl (av1 b y)
 have trl:∀{ds:List D}{ws:List V},RepL G.1 (AV (avF av [a]) A') H' ds ws->RepL G.1 (AV av (λj=>if j=i then some a else A' j)) (upd H' a (.dT (ks.zip vs))) ds ws:=λr=>(r.ext ext).av λb y => .inl (av1 b y)
 have si:σ'[i]? = some (some (.ref a)):=E.kept i _ Zbi;refine⟨λb u e => ?_,ha,λj x z => ?_,λj k x e1 e2 => ?_,λj x z => ?_,λj z => ?_,λj hj => ?_,by rw [List.length_set];exact E.len,λj x z => ?_,λj v z => ?_,λj d e => ?_⟩
 · have hb:b≠a:=λz=>by subst z;rw [h0]at e;cases e
   rw [Zs hb];exact E.same b u (by rw [XB (by simpa using hb)];exact e)
 · by_cases q:j=i
   · simp [q]at z;subst z;exact h0
   · simp [q]at z
     have:=E.fr j x z;rw [XB (by simpa using na j x z)]at this;exact this
 · by_cases q:j=i
   · by_cases q2:k=i
     · rw [q,q2]
     · simp [q]at e1;simp [q2]at e2;exact absurd e1.symm (na k x e2)
   · by_cases q2:k=i
     · simp [q]at e1;simp [q2]at e2;exact absurd e2.symm (na j x e1)
     · simp [q]at e1;simp [q2]at e2;exact E.inj j k x e1 e2
 · by_cases q:j=i
   · simp [q]at z;subst z;rw [ZL];exact λz=>by cases z
   · simp [q]at z;rw [Zs (na j x z)];exact E.live j x z
 · by_cases q:j=i
   · exact(hw j).mpr (.inr q)
   · simp [q]at z;exact(hw j).mpr (.inl (E.dom j z))
 · by_cases q:j=i
   · simp [q]
   · simp [q];exact E.dom' j (((hw j).mp hj).resolve_right q)
 · have q:j≠i:=λy=>by rw [y,hn]at z;cases z
   simp [q];exact E.pin j x (by rw [Vp q];exact z)
 · have q:j≠i:=λy=>by rw [y,hn]at z;cases z
   exact E.kept j v (by rw [Vp q];exact z)
 · rcases UI e with⟨rfl,rfl,_⟩|⟨q,e'⟩
   · refine⟨_,si,λz=>by simp at z,λx z => ?_⟩
     simp at z;subst z;exact⟨rfl,vs,ZL,hk,trl l⟩
   · obtain⟨v,h1,h2,h3⟩:=E.var j d e'
     refine⟨v,h1,λz => ?_,λx z => ?_⟩
     · simp [q]at z;exact tr (h2 z)
     · simp [q]at z
       obtain⟨r1,r2⟩:=h3 x z;refine⟨r1,?_⟩;have n:=na j x z;cases d with
       |lst xs=>obtain⟨vs,q1,q2⟩:=r2;exact⟨vs,by rw [Zs n];exact q1,trl q2⟩
       |obj c ks xs=>obtain⟨dx,vs,q1,q0,q2⟩:=r2;exact⟨dx,vs,by rw [Zs n];exact q1,q0,trl q2⟩
       |dct ks xs=>obtain⟨vs,q1,q0,q2⟩:=r2;exact⟨vs,by rw [Zs n];exact q1,q0,trl q2⟩
       |dtt ks xs=>obtain⟨vs,q1,q0,q2⟩:=r2;exact⟨vs,by rw [Zs n];exact q1,q0,trl q2⟩
       |_=>exact r2
def kD(k:List Key):D := .tup (k.map Uk)
def Qr(i n:Nat)(γs:List D->Env->Option Env)(φ:Env->Option Out)(δ:Env):Option Out:=match Za i δ with
 |some (.dtt ks xs)=>match ZP (ZS n γs) φ (ks.map kD) (δ.set i none)with
  |some (.nx δ')=>match δ'[i]? with
   |some none=>some (.nx (δ'.set i (some (.dtt ks xs))))
   |_=>none
  |some (.rt d)=>some (.rt d)
  |_=>none
 |_=>none
theorem Zgw {n:Nat} {gs:TGs} {tb:TS} {γs:List D->Env->Option Env} {φ:Env->Option Out} (i:Nat) (hi:ow.contains i=true) (hn:G.2 i=none) (h1:sub ow1 ow=true) (h2:ow1.contains i=false) (h3:sub ow (i::ow1)=true)
 (hg:∀v,VGs (G.keep i v) ow1 ow1 gs γs) (hb:∀v,VS (G.keep i v) ow1 ow1 ow1 ow1 tb φ):VS G ow ow owB owC (ZhC (Xr i) (UX G.1.K n gs) tb) (Qr i n γs φ):=λH0 av A σ H δ E o e De k=>by
 unfold Qr at e
 split at e
 case h_2=>cases e
 rename_i ks xs hv;have hi':i∈ow:=by simpa using hi
 have hi1:i∉ow1:=by simpa using h2
 have hw:=Qd h1 h2 h3
 have hw2:∀j,j∈ow ↔ j∈ow1\/j=i:=λj=>by
  constructor
  · intro z
    by_cases q:j=i
    · exact .inr q
    · exact .inl ((hw j).mpr ⟨z,q⟩)
  · rintro(z|rfl)
    · exact((hw j).mp z).1
    · exact hi'
 cases hA:A i with
 |none=>exact absurd hA (E.dom' i hi')
 |some a=>
 have hd:=YI hv;have hil:i<δ.length:=(List.getElem?_eq_some_iff.mp hd).1;obtain⟨v,g1,_,g3⟩:=E.var i _ hd;obtain⟨rfl,vs,q1,hkl,q2⟩:=g3 a hA;intro NF;refine⟨_,g1,a,ks.zip vs,rfl,q1,λob nf => ?_⟩;have EC:=E.cut;have Eh:=Zde EC hA g1 hw (.frz ob (.dT (ks.zip vs)));have hzl:(ks.zip vs).length=ks.length:=by rw [List.length_zip,<-q2.length];omega
 cases hf:ZP (ZS n γs) φ (ks.map kD) (δ.set i none)with
 |none=>rw [hf]at e;cases e
 |some o1=>
 rw [hf]at e;refine⟨λt m σ' H'=>m=ks.length-t/\t<=ks.length/\∃A' δ',ER (G.keep i (.ref a)) ow1 (ovl (DL.cut A H) (upd H a (.frz ob (.dT (ks.zip vs)))) [a]) (avF av [a]) A' σ' H' δ'/\ZP (ZS n γs) φ ((ks.map kD).drop t) δ'=some o1,⟨ks.length,by simp,Nat.zero_le _,_,_,Eh,hf⟩,?_⟩
 rintro t m σ' H' ⟨rfl,hle,A',δ',E',e'⟩
 have fr:H' a=some (.frz ob (.dT (ks.zip vs))):=E'.same a _ (by rw [Uf (List.mem_singleton.mpr rfl),ZL])
 have fin:∀{A':Nat->Option Addr}{σ':L2.St}{H':Hp}{δ':Env},ER (G.keep i (.ref a)) ow1 (ovl (DL.cut A H) (upd H a (.frz ob (.dT (ks.zip vs)))) [a]) (avF av [a]) A' σ' H' δ'->o1 = .nx δ'->∃d o kvs,H' d=some (.frz o (.dT kvs))/\NF d/\De.nx σ' (upd H' d (.dT kvs)):=λ{A' σ' H' δ'} E' eo=>by
  subst eo;dsimp only at e
  split at e
  case h_2=>cases e
  rename_i hc;cases e;have fr:H' a=some (.frz ob (.dT (ks.zip vs))):=E'.same a _ (by rw [Uf (List.mem_singleton.mpr rfl),ZL]);refine⟨a,ob,_,fr,nf,?_⟩
  have l2:RepL G.1 (AV (avF av [a]) A') H' xs vs:=by
   have l1:RepL G.1 (λb=>AV av A b\/AV (avF av [a]) A' b) H xs vs:=q2.av λb z=>by
    rcases z with z|(z|z)|⟨j,z⟩
    · exact .inl z
    · exact .inl (.inl z)
    · rw [List.mem_singleton.mp z];exact .inl (.inr ⟨i,hA⟩)
    · have:=E'.fr j b z
      by_cases hb:b=a
      · rw [hb];exact .inl (.inr ⟨i,hA⟩)
      · rw [XB (by simpa using hb)]at this
        by_cases q:∃l,A l=some b
        · exact .inl (.inr q)
        · rw [Vn q]at this;exact .inr this
   refine(l1.ext λb u n z => ?_).av λb z => .inl (.inr z)
   have hb:b≠a:=λy=>n (by rw [y];exact .inl (.inr ⟨i,hA⟩))
   refine E'.same b u ?_;rw [XB (by simpa using hb),Vn λq=>n (.inl (.inr q))];exact z
  exact k _ _ _ (E.uncut (Zgv E' (EC.fr i a hA) (by rw [ZL];exact λz=>by cases z) EC.avd hw2 hi1 hn (List.getElem?_eq_some_iff.mp hc).1 hkl l2))
 by_cases hlt:t<ks.length
 · have hlt':t<(ks.map kD).length:=by rw [List.length_map];exact hlt
   refine .inr ⟨⟨fr,by rw [hzl];exact hlt⟩,λσ2 H2=>∃A2 δ2,ER (G.keep i (.ref a)) ow1 (ovl (DL.cut A H) (upd H a (.frz ob (.dT (ks.zip vs)))) [a]) (avF av [a]) A2 σ2 H2 δ2/\ZP (ZS n γs) φ ((ks.map kD).drop (t+1)) δ2=some o1,λσ2 H2 ⟨A2,δ2,E2,e2⟩=>⟨ks.length-(t+1),by omega,rfl,hlt,A2,δ2,E2,e2⟩,λv H2 y => ?_⟩;obtain⟨rfl,ka,kk,x,y1,y2,y3⟩:=y;subst y2;rw [List.drop_eq_getElem_cons hlt']at e'
   have ek:(ks.map kD)[t]=kD kk:=by
    rw [List.getElem_map];have:=List.getElem?_zip_eq_some.mp y1;rw [List.getElem?_eq_getElem hlt]at this;rw [Option.some.inj this.1]
   rw [ek]at e';unfold ZP at e';cases hγ:ZS n γs (kD kk) δ' with
   |none=>rw [hγ]at e';cases e'
   |some δ1=>
   rw [hγ]at e';dsimp only at e';unfold ZS kD at hγ;dsimp only at hγ
   by_cases hl:(kk.map Uk).length=n
   case neg=>rw [if_neg hl]at hγ;cases hγ
   rw [if_pos hl]at hγ;refine⟨ka,_,rfl,SqT.of y3,by rw [List.length_map];rw [List.length_map]at hl;exact hl,?_⟩;refine hg (.ref a) _ _ A' σ' _ δ' E' _ _ (ZbW kk) δ1 hγ _ λA3 σ3 H3 s3 _ E3 => ?_
   cases hφ:φ δ1 with
   |none=>rw [hφ]at e';cases e'
   |some o2=>
    rw [hφ]at e';refine hb (.ref a) _ _ A3 σ3 H3 δ1 E3 o2 hφ _ ?_;cases o2 with
    |nx δ2=>exact λA4 σ4 H4 E4=>⟨A4,δ2,E4,e'⟩
    |ct δ2=>exact λA4 σ4 H4 E4=>⟨A4,δ2,E4,e'⟩
    |bk δ2=>exact λA4 σ4 H4 E4=>fin E4 (Option.some.inj e').symm
    |rt d=>
     have:o1 = .rt d:=(Option.some.inj e').symm;subst this;cases e;refine λv H4 s4 r4=>k v H4 (λb u z=>s4 b u ?_) (r4.av λb z => .inl (.inl z))
     have hb:b≠a:=λy=>by rw [y,E.fr i a hA]at z;cases z
     rw [XB (by simpa using hb)];exact E.sub0 b u z
 · have ei:t=ks.length:=by omega
   subst ei;rw [List.drop_of_length_le (by rw [List.length_map];exact Nat.le_refl _)]at e';exact .inl ⟨⟨fr,by rw [hzl];exact Nat.le_refl _⟩,fin E' (Option.some.inj e').symm⟩
theorem Zgx{H2:Hp}(E:ER (G.keep i (.ref a)) ow1 (ovl H0 H2 [a]) (avF av [a]) A' σ' H' δ')(h0:H0 a=none)(h2:H2 a≠none)(ha:∀x,av x->H0 x≠none)(hn:G.2 i=none):ER G ow1 H0 av A' σ' H' δ':=by
 have av1:∀b,AV av A' b->AV (avF av [a]) A' b:=λb z=>z.elim (λz => .inl (.inl z)) .inr
 refine⟨λb u e => ?_,ha,λj x z => ?_,E.inj,E.live,E.dom,E.dom',E.len,λj x z => ?_,λj v z => ?_,λj d e => ?_⟩
 · have hb:b≠a:=λz=>by subst z;rw [h0]at e;cases e
   exact E.same b u (by rw [XB (by simpa using hb)];exact e)
 · have:=E.fr j x z
   by_cases hx:x=a
   · subst hx;exact h0
   · rw [XB (by simpa using hx)]at this;exact this
 · have q:j≠i:=λy=>by rw [y,hn]at z;cases z
   exact E.pin j x (by rw [Vp q];exact z)
 · have q:j≠i:=λy=>by rw [y,hn]at z;cases z
   exact E.kept j v (by rw [Vp q];exact z)
 · obtain⟨v,h1,h2,h3⟩:=E.var j d e
   refine⟨v,h1,λz=>(h2 z).av λb y => .inl (av1 b y),λx z => ?_⟩;obtain⟨r1,r2⟩:=h3 x z;refine⟨r1,?_⟩;cases d with
   |lst xs=>obtain⟨vs,q1,q2⟩:=r2;exact⟨vs,q1,q2.av λb y => .inl (av1 b y)⟩
   |obj c ks xs=>obtain⟨dx,vs,q1,q0,q2⟩:=r2;exact⟨dx,vs,q1,q0,q2.av λb y => .inl (av1 b y)⟩
   |dct ks xs=>obtain⟨vs,q1,q0,q2⟩:=r2;exact⟨vs,q1,q0,q2.av λb y => .inl (av1 b y)⟩
   |dtt ks xs=>obtain⟨vs,q1,q0,q2⟩:=r2;exact⟨vs,q1,q0,q2.av λb y => .inl (av1 b y)⟩
   |_=>exact r2
def Qs(i j n:Nat)(γs:List D->Env->Option Env)(τ:Env->Option Bool)(ε:Env->Option D)(nb:Nat)(js:List Nat)(δ:Env):Option Out:=match Za i δ with
 |some (.dtt ks xs)=>match ZZ (ZS n γs) τ ε (YY nb (δ.set i none) js) (ks.map kD)with
  |some ys=>if ys.length<=sizeLine then some (.nx ((δ.set i none).set j (some (.lst ys))))else none
  |none=>none
 |_=>none
theorem ZeU {n nb:Nat} {js:List Nat} {gs:TGs} {tt:TT} {te:TE} {γs:List D->Env->Option Env} {τ:Env->Option Bool} {ε:Env->Option D} (i j:Nat) (hij:j≠i) (hi:ow.contains i=true) (hn:G.2 i=none) (hnj:G.2 j=none) (h1:sub ow1 ow=true) (h2:ow1.contains i=false) (h3:sub ow (i::ow1)=true) (hj:ow1.contains j=false)
 (hjs:js.all (λj => !ow1.contains j)=true) (hg:VGs ⟨G.1,λ_=>none⟩ [] [] gs γs) (ht:VT ⟨G.1,λ_=>none⟩ [] tt τ) (he:VE ⟨G.1,λ_=>none⟩ [] te .cl ε):VS G ow ow1 owB owC (XH (QP (ZfU (λ_=>True) (Xr i)) (UX G.1.K n gs) tt te nb js) (XG j)) (Qs i j n γs τ ε nb js):=λH0 av A σ H δ E o e De k=>by
 unfold Qs at e
 split at e
 case h_2=>cases e
 rename_i ks xs hv;have hi':i∈ow:=by simpa using hi
 have hw:=Qd h1 h2 h3;have hj1:j∉ow1:=by simpa using hj
 cases hA:A i with
 |none=>exact absurd hA (E.dom' i hi')
 |some a=>
 have hd:=YI hv;obtain⟨v,g1,_,g3⟩:=E.var i _ hd;obtain⟨rfl,vs,q1,hkl,q2⟩:=g3 a hA;cases hc:ZZ (ZS n γs) τ ε (YY nb (δ.set i none) js) (ks.map kD)with
 |none=>rw [hc]at e;cases e
 |some full=>
 rw [hc]at e;dsimp only at e
 by_cases hz:full.length<=sizeLine
 case neg=>rw [if_neg hz]at e;cases e
 rw [if_pos hz]at e;cases e;refine⟨_,g1,a,ks.zip vs,rfl,q1,λob _ => ?_⟩;have Eh:=Zde E hA g1 hw (.frz ob (.dT (ks.zip vs)));have hzl:(ks.zip vs).length=ks.length:=by rw [List.length_zip,<-q2.length];omega
 generalize hH1:upd H a (.frz ob (.dT (ks.zip vs)))=H1 at Eh;have ha1:H1 a=some (.frz ob (.dT (ks.zip vs))):=by rw [<-hH1,ZL]
 refine⟨λt m ys H'=>m=ks.length-t/\t<=ks.length/\Same H1 H'/\∃done rest,RepL G.1 (AV (avF av [a]) (λj=>if j=i then none else A j)) H' done ys/\ZZ (ZS n γs) τ ε (YY nb (δ.set i none) js) ((ks.map kD).drop t)=some rest/\done++rest=full,
  ⟨ks.length,by simp,Nat.zero_le _,Same.refl _,[],full,.nil,hc,rfl⟩,?_⟩
 rintro t m ys H' ⟨rfl,hle,s',done,rest,rl,hr,hf⟩
 have E':=Eh.mono s';have fr:=s' _ _ ha1
 by_cases hlt:t<ks.length
 · have hlt':t<(ks.map kD).length:=by rw [List.length_map];exact hlt
   refine .inr ⟨⟨fr,by rw [hzl];exact hlt⟩,λv H2 y => ?_⟩;obtain⟨rfl,ka,kk,x,y1,y2,y3⟩:=y;subst y2;have EB:=E'.blk nb js hjs
   have triv:∀(A':Nat->Option Addr){σ':L2.St}{H3:Hp}{δ':Env},ER ⟨G.1,λ_=>none⟩ [] H2 (AV (avF av [a]) (λj=>if j=i then none else A j)) A' σ' H3 δ'->∀b,AV (AV (avF av [a]) (λj=>if j=i then none else A j)) A' b ↔ AV (avF av [a]) (λj=>if j=i then none else A j) b:=λA' {σ' H3 δ'} E3 b=>by
    constructor
    · rintro(z|⟨l,z⟩)
      · exact z
      · have:=E3.dom l (by rw [z];exact λz=>by cases z)
        cases this
    · exact λz => .inl z
   rw [List.drop_eq_getElem_cons hlt']at hr
   have ek:(ks.map kD)[t]=kD kk:=by
    rw [List.getElem_map];have:=List.getElem?_zip_eq_some.mp y1;rw [List.getElem?_eq_getElem hlt]at this;rw [Option.some.inj this.1]
   rw [ek]at hr;unfold ZZ at hr;cases hγ:ZS n γs (kD kk) (YY nb (δ.set i none) js)with
   |none=>rw [hγ]at hr;cases hr
   |some δ1=>
   rw [hγ]at hr;dsimp only at hr;unfold ZS kD at hγ;dsimp only at hγ
   by_cases hl:(kk.map Uk).length=n
   case neg=>rw [if_neg hl]at hγ;cases hγ
   rw [if_pos hl]at hγ;refine⟨ka,_,rfl,SqT.of y3,by rw [List.length_map];rw [List.length_map]at hl;exact hl,?_⟩;refine hg _ _ _ _ _ _ EB _ _ (ZbW kk) δ1 hγ _ λA3 σ3 H3 s3 _ E3 => ?_
   cases hτ:τ δ1 with
   |none=>rw [hτ]at hr;cases hr
   |some c=>
    rw [hτ]at hr;refine ht _ _ A3 σ3 H3 δ1 E3 c hτ _ λH4 s4 => ?_
    have E4:=E3.mono s4;cases c with
    |false=>exact V5 ⟨ks.length-(t+1),by omega,rfl,hlt,s'.trans (s3.trans s4),done,rest,rl.same (s3.trans s4),hr,hf⟩
    |true=>
     dsimp only at hr;cases hε:ε δ1 with
     |none=>rw [hε]at hr;cases hr
     |some yd=>
      rw [hε]at hr;dsimp only at hr;cases hr':ZZ (ZS n γs) τ ε (YY nb (δ.set i none) js) ((ks.map kD).drop (t+1))with
      |none=>rw [hr']at hr;cases hr
      |some rest'=>
       rw [hr']at hr;have hrr:yd::rest'=rest:=Option.some.inj hr;subst hrr;refine V6 (he _ _ A3 σ3 H4 δ1 E4 yd hε _ λvy H5 s5 r5 => ?_);have sall:Same H2 H5:=(s3.trans s4).trans s5;refine⟨?_,ks.length-(t+1),by omega,rfl,hlt,s'.trans sall,done++[yd],rest',(rl.same sall).append (.cons ((RepT.r r5).av λb z => .inl ((triv _ E4 b).mpr z)) .nil),hr',by rw [<-hf];simp⟩
       have:=congrArg List.length hf;rw [List.length_append,List.length_cons]at this;have:=rl.length;omega
 · have ei:t=ks.length:=by omega
   subst ei;rw [List.drop_of_length_le (by rw [List.length_map];exact Nat.le_refl _)]at hr;cases hr;rw [List.append_nil]at hf;subst hf;refine .inl ⟨⟨fr,by rw [hzl];exact Nat.le_refl _⟩,λp hp => ?_⟩
   have Rp:Rep G.1 (AV (avF av [a]) (λj=>if j=i then none else A j)) (upd H' p (.lst ys)) (.lst done) (.ref p):=by
    unfold Rep;exact⟨p,ys,rfl,λz=>absurd hp (E'.avl p z),SqL.of ZL,rl.same (Yb hp)⟩
   have E5:=(E'.mono (Yb hp)).set (ow1:=ow1) (i:=j) Rp (λl=>⟨λz=>⟨z,λq=>hj1 (q▸z)⟩,λz=>z.1⟩) (by rw [Vp hij];exact hnj);subst hH1;exact k _ _ _ (Zgx E5 (E.fr i a hA) (by rw [ZL];exact λz=>by cases z) E.avd hn)
theorem ZbX:ZkD G ow tDNewT (eC (.dtt [] [])):=λH0 av A σ H δ E d e Q k=>by
 intro p hp;have:(some (D.dtt [] []):Option D)=some d:=e;exact k p [] [] [] H (Same.refl H) hp rfl .nil (Option.some.inj this).symm
end
end DL
namespace DL
open PySem PySem.Spec L2
theorem XT(i j:Int):eqD (.int i) (.int j)=some (.bl (decide (i=j))):=by
 show(if(Zx (.int i)&&Zx (.int j)&&scal (V.int i) (V.int j))=true then some (D.bl (decide (V.int i=V.int j)))else _)=_;rw [if_pos (by rfl)];simp
theorem Qt(a b:List Nat):eqD (.str a) (.str b)=some (.bl (decide (a=b))):=by
 show(if(Zx (.str a)&&Zx (.str b)&&scal (S a) (S b))=true then some (D.bl (decide (S a=S b)))else _)=_;rw [if_pos (by rfl)];simp only [ZiY]
theorem Zdf(a b:Bool):eqD (.bl a) (.bl b)=some (.bl (decide (a=b))):=by
 show(if(Zx (.bl a)&&Zx (.bl b)&&scal (V.bl a) (V.bl b))=true then some (D.bl (decide (V.bl a=V.bl b)))else _)=_;rw [if_pos (by rfl)];simp
theorem ZcB:eqD .non .non=some (.bl true):=rfl
theorem ZcC(i:Int):eqD .non (.int i)=some (.bl false):=by
 show(if(Zx .non&&Zx (.int i)&&scal V.non (V.int i))=true then some (D.bl (decide (V.non=V.int i)))else _)=_;rw [if_pos (by rfl)];simp
theorem ZcD(i:Int):eqD (.int i) .non=some (.bl false):=by
 show(if(Zx (.int i)&&Zx .non&&scal (V.int i) V.non)=true then some (D.bl (decide (V.int i=V.non)))else _)=_;rw [if_pos (by rfl)];simp
theorem Zbm(i j:Int):neD (.int i) (.int j)=some (.bl (!decide (i=j))):=by unfold neD;rw [XT]
theorem Zdg(i j:List Nat):neD (.str i) (.str j)=some (.bl (!decide (i=j))):=by unfold neD;rw [Qt]
theorem Zfx:neD .non .non=some (.bl false):=by unfold neD;rw [ZcB];rfl
theorem Zfy(i:Int):neD .non (.int i)=some (.bl true):=by unfold neD;rw [ZcC];rfl
theorem Zfz(i:Int):neD (.int i) .non=some (.bl true):=by unfold neD;rw [ZcD];rfl
theorem Y0{γ:D->Env->Option Env}{φ:Env->Option Out}(I:Nat->Env->Prop):∀(xs:List D)(k:Nat)(δ:Env),I k δ ->
 (∀(j:Nat)x δ,xs[j]? = some x->I (k+j) δ->∃δ1,γ x δ=some δ1/\∃δ2,φ δ1=some (.nx δ2)/\I (k+j+1) δ2)->∃δ',ZP γ φ xs δ=some (.nx δ')/\I (k+xs.length) δ'
 | [],k,δ,h,_=>⟨δ,rfl,h⟩
 |x::xs,k,δ,h,step=>by
  obtain⟨δ1,h1,δ2,h2,h3⟩:=step 0 x δ rfl h
  obtain⟨δ',h4,h5⟩:=Y0 I xs (k+1) δ2 h3 λj y δ hy hI=>by
   have:=step (j+1) y δ (by simpa using hy) (by rwa [show k+(j+1)=k+1+j by omega])
   rwa [show k+(j+1)+1=k+1+j+1 by omega]at this
  refine⟨δ',?_,by rwa [List.length_cons,show k+(xs.length+1)=k+1+xs.length by omega]⟩;unfold ZP;rw [h1];dsimp only;rw [h2];exact h4
theorem Zdh{γ:D->Env->Option Env}{φ:Env->Option Out}(I:Nat->Env->Prop)(R:D->Prop):∀(xs:List D)(k:Nat)(δ:Env),I k δ ->
 (∀(j:Nat)x δ,xs[j]? = some x->I (k+j) δ->∃δ1,γ x δ=some δ1/\((∃δ2,φ δ1=some (.nx δ2)/\I (k+j+1) δ2)\/∃d,φ δ1=some (.rt d)/\R d)) ->
 (∃δ',ZP γ φ xs δ=some (.nx δ')/\I (k+xs.length) δ')\/∃d,ZP γ φ xs δ=some (.rt d)/\R d
 | [],k,δ,h,_ => .inl ⟨δ,rfl,h⟩
 |x::xs,k,δ,h,step=>by
  obtain⟨δ1,h1,h2⟩:=step 0 x δ rfl h;rcases h2 with⟨δ2,h2,h3⟩|⟨d,h2,h3⟩
  · have ih := Zdh I R xs (k + 1) δ2 h3 fun j y δ hy hI => by
     have:=step (j+1) y δ (by simpa using hy) (by rwa [show k+(j+1)=k+1+j by omega])
     rwa [show k+(j+1)+1=k+1+j+1 by omega]at this
    have e:ZP γ φ (x::xs) δ=ZP γ φ xs δ2:=by
     conv=>lhs;unfold ZP
     rw [h1];dsimp only;rw [h2]
    rw [e];rcases ih with⟨δ',h4,h5⟩|r
    · exact .inl ⟨δ',h4,by rwa [List.length_cons,show k+(xs.length+1)=k+1+xs.length by omega]⟩
    · exact .inr r
  · refine .inr ⟨d,?_,h3⟩
    unfold ZP;rw [h1];dsimp only;rw [h2]
end DL
namespace DL
open PySem PySem.Spec L2
theorem Za5{α:Type}(g:α->Nat):∀xs:List α,strs? (xs.map λx=>D.str [g x])=some (xs.map λx=>[g x])
 | []=>rfl
 |x::xs=>by rw [List.map_cons,strs?,Za5 g xs,List.map_cons]
theorem Zd8{α:Type}(g:α->Nat)(xs:List α)(h:xs.length<=sizeLine):joinD [] [.lst (xs.map λx=>D.str [g x])]=some (.str (xs.map g)):=by
 unfold joinD;dsimp only;rw [Za5];dsimp only
 have e1:((xs.map λx=>[g x]).map List.length).sum=xs.length:=by
  clear h
  induction xs with
  |nil=>rfl
  |cons x xs ih=>
   rw [List.map_cons,List.map_cons,List.sum_cons,ih];simp;omega
 rw [if_pos (by rw [e1];simpa using h),JS]
 congr 2
 clear h e1
 induction xs with
 |nil=>rfl
 |cons x xs ih=>rw [List.map_cons,List.flatten_cons,ih];rfl
end DL
namespace DL
open PySem PySem.Spec L2
theorem Zgy{cs:List Nat}{i:Int}{c:Nat}(h:cs.length<=sizeLine)(hz:atI cs i=some c):ixD (.str cs) (.int i)=some (.str [c]):=by
 show(if cs.length<=sizeLine then(atI cs i).map λc=>D.str [c]else none)=_;rw [if_pos h,hz];rfl
end DL
namespace DL
open PySem PySem.Spec L2
theorem Zp{a b:Env->Option Out}{δ δ':Env}(h:a δ=some (.nx δ')):Zd a b δ=b δ':=by
 unfold Zd;rw [h]
theorem ZcE{a b:Env->Option Out}{δ:Env}{d:D}(h:a δ=some (.rt d)):Zd a b δ=some (.rt d):=by
 unfold Zd;rw [h]
theorem Zz{i:Nat}{e:Env->Option D}{δ:Env}{d:D}(h:e δ=some d):Zg i e δ=some (.nx (δ.set i (some d))):=by
 unfold Zg;rw [h]
theorem Yx{e:Env->Option D}{δ:Env}{d:D}(h:e δ=some d):ZA e δ=some (.rt d):=by
 unfold ZA;rw [h]
theorem Y7{t:Env->Option Bool}{a b:Env->Option Out}{δ:Env}(h:t δ=some true):sIf t a b δ=a δ:=by
 unfold sIf;rw [h]
theorem Ye{t:Env->Option Bool}{a b:Env->Option Out}{δ:Env}(h:t δ=some false):sIf t a b δ=b δ:=by
 unfold sIf;rw [h]
theorem ZX{e:Env->Option D}{δ:Env}{b:Bool}(h:e δ=some (.bl b)):xB e δ=some b:=by
 unfold xB;rw [h];rfl
theorem UN{t:Env->Option Bool}{δ:Env}{b:Bool}(h:t δ=some b):YJ t δ=some (!b):=by
 unfold YJ;rw [h]
theorem Qu{a b:Env->Option Bool}{δ:Env}{x:Bool}(h1:a δ=some false)(h2:b δ=some x):xOr a b δ=some x:=by
 unfold xOr;rw [h1];exact h2
theorem Zgz{a b:Env->Option Bool}{δ:Env}(h1:a δ=some true):xOr a b δ=some true:=by
 unfold xOr;rw [h1]
theorem ZbY{a b:Env->Option Bool}{δ:Env}{x:Bool}(h1:a δ=some true)(h2:b δ=some x):Xa a b δ=some x:=by
 unfold Xa;rw [h1];exact h2
theorem Zdi{a b:Env->Option Bool}{δ:Env}(h1:a δ=some false):Xa a b δ=some false:=by
 unfold Xa;rw [h1]
theorem YC{n:Nat}{m:List D->Option D}{α:Env->Option (List D)}{δ:Env}{ds:List D}(h:α δ=some ds)(hn:ds.length=n):Zy n m [] α δ=m ds:=by
 unfold Zy;rw [h];dsimp only;rw [List.append_nil,if_pos hn]
theorem Zh{a:Env->Option D}{b:Env->Option (List D)}{δ:Env}{x:D}{xs:List D}(h1:a δ=some x)(h2:b δ=some xs):Zb a b δ=some (x::xs):=by
 unfold Zb;rw [h1,h2]
theorem Zk{f:D->D->Option D}{a b:Env->Option D}{δ:Env}{x y:D}(h1:a δ=some x)(h2:b δ=some y):eOp f a b δ=f x y:=by
 unfold eOp;rw [h1,h2]
theorem V0{α:Env->Option (List D)}{δ:Env}{ds:List D}(h:α δ=some ds)(hl:ds.length<=1000):Yc α δ=(some (.tup ds):Option D):=by
 unfold Yc;rw [h];exact if_pos (Nat.le_trans hl (by decide))
theorem Yy{α:Env->Option (List D)}{δ:Env}{ds:List D}(h:α δ=some ds)(hl:ds.length<=1000):Zv α δ=(some (.lst ds):Option D):=by
 unfold Zv;rw [h];exact if_pos (Nat.le_trans hl (by decide))
theorem Q7{γ:D->Env->Option Env}{φ:Env->Option Out}(I:Env->Prop):∀(xs:List D)(δ:Env),I δ ->
 (∀x∈xs,∀δ,I δ->∃δ1,γ x δ=some δ1/\∃δ2,φ δ1=some (.nx δ2)/\I δ2)->∃δ',ZP γ φ xs δ=some (.nx δ')/\I δ'
 | [],δ,h,_=>⟨δ,rfl,h⟩
 |x::xs,δ,h,step=>by
  obtain⟨δ1,h1,δ2,h2,h3⟩:=step x List.mem_cons_self δ h;obtain⟨δ',h4,h5⟩:=Q7 I xs δ2 h3 λy hy=>step y (List.mem_cons_of_mem _ hy)
  refine⟨δ',?_,h5⟩;unfold ZP;rw [h1];dsimp only;rw [h2];exact h4
theorem ZgA{lo c:Int}{n:Nat}{x:D}(h:x∈Yr lo c n):∃k:Nat,k<n/\x = .int (lo+(k:Nat)*c):=by
 unfold Yr at h;obtain⟨k,hk,rfl⟩:=List.mem_map.mp h;exact⟨k,List.mem_range.mp hk,rfl⟩
theorem ZbZ {τ:Env->Option Bool} {φ:Env->Option Out} (I J:Env->Prop) (μ:Env->Nat)
 (step:∀δ,I δ->(τ δ=some false/\J δ)\/(τ δ=some true/\∃δ',φ δ=some (.nx δ')/\I δ'/\μ δ'<μ δ)) :
 ∀(k:Nat)(δ:Env),μ δ<=k->I δ->∃n δ',YN τ φ n δ=some (.nx δ')/\J δ'
 |0,δ,hk,h=>by
  rcases step δ h with⟨h1,h2⟩|⟨h1,δ',h2,h3,h4⟩
  · exact⟨1,δ,by unfold YN;rw [h1],h2⟩
  · omega
 |k+1,δ,hk,h=>by
  rcases step δ h with⟨h1,h2⟩|⟨h1,δ',h2,h3,h4⟩
  · exact⟨1,δ,by unfold YN;rw [h1],h2⟩
  · obtain⟨n,δ2,h5,h6⟩:=ZbZ I J μ step k δ' (by omega) h3
    refine⟨n+1,δ2,?_,h6⟩;unfold YN;rw [h1];dsimp only;rw [h2];exact h5
theorem Zcp {τ:Env->Option Bool} {φ:Env->Option Out} (I J:Env->Prop) (μ:Env->Nat)
 (step:∀δ,I δ->(τ δ=some false/\J δ)\/(τ δ=some true/\∃δ',φ δ=some (.nx δ')/\I δ'/\μ δ'<μ δ)) (δ:Env) (h:I δ):∃δ',VU τ φ δ=some (.nx δ')/\J δ':=by
 obtain⟨n,δ',h1,h2⟩:=ZbZ I J μ step (μ δ) δ (Nat.le_refl _) h;exact⟨δ',ZdV h1,h2⟩
theorem Zi7{i:Int}(h:i.natAbs<=10 ^ 1000):Wd i:=Nat.lt_of_le_of_lt h (by decide +kernel)
theorem ZeV{i j:Int}(h1:j≠0)(h2:Wd j):fdivW (.int i) (.int j)=some (.int (i.fdiv j)):=if_pos ⟨h1,h2⟩
theorem ZgB{i j:Int}(h1:j≠0):modW (.int i) (.int j)=some (.int (i.fmod j)):=if_pos h1
theorem ZgC{a b:Int}(h:0<b):0<=a.fmod b/\a.fmod b<b:=by
 rw [Int.fmod_eq_emod_of_nonneg a (by omega)];exact⟨Int.emod_nonneg a (by omega),Int.emod_lt_of_pos a h⟩
end DL
namespace DL
open PySem PySem.Spec L2
theorem Zid{α:Env->Option (List D)}{δ:Env}{j:Int}(h:α δ=some [.int j])(h1 : -1000000<=j)(h2:j<=1000000):ZH α δ=some (Yr 0 1 j.toNat):=by
 unfold ZH;rw [h];dsimp only;rw [if_pos ⟨by omega,by omega⟩]
theorem Zie{α:Env->Option (List D)}{δ:Env}{i j:Int}(h:α δ=some [.int i,.int j])(h1 : -1000000<=j)(h2:j<=1000000)(h3 : -1000000<=i)(h4:i<=1000000):ZH α δ=some (Yr i 1 (j-i).toNat):=by
 unfold ZH;rw [h];dsimp only;rw [if_pos ⟨by omega,by omega,by omega,by omega⟩]
theorem XE{i:Nat}{ε:Env->Option D}{δ:Env}{xs:List D}{d:D}(h1:Za i δ=some (.lst xs))(h2:ε δ=some d)(hl:xs.length<=1000000):ZW i ε δ=some (.nx (δ.set i (some (.lst (xs++[d]))))):=by
 unfold ZW;rw [h1];dsimp only;rw [h2];dsimp only;rw [if_pos (by rw [PySem.sizeLine_eq];omega)]
theorem Ym{ι:Env->Option (List D)}{γ:D->Env->Option Env}{φ:Env->Option Out}{δ:Env}{xs:List D}{o:Out}(h1:ι δ=some xs)(h2:ZP γ φ xs δ=some o):ZB ι γ φ δ=some o:=by
 unfold ZB;rw [h1];exact h2
theorem XU{ι:Env->Option (List D)}{γ:D->Env->Option Env}{τ:Env->Option Bool}{ε:Env->Option D}{n:Nat}{js:List Nat}{δ δ0:Env}{xs ys:List D}(h1:ι δ=some xs)(hb:YY n δ js=δ0)(h2:ZZ γ τ ε δ0 xs=some ys)(hl:ys.length<=1000000):ZT ι γ τ ε n js δ=some (.lst ys):=by
 unfold ZT;rw [h1];dsimp only;rw [hb,h2];dsimp only;rw [if_pos (by rw [PySem.sizeLine_eq];omega)]
theorem Q8{f:List Nat->List D->Option D}{a:Env->Option D}{α:Env->Option (List D)}{δ:Env}{s:List Nat}{ds:List D}(h1:a δ=some (.str s))(h2:α δ=some ds):eBM f a α δ=f s ds:=by
 unfold eBM;rw [h1,h2]
theorem ZN{f:List D->Option D}{α:Env->Option (List D)}{δ:Env}{ds:List D}(h:α δ=some ds):eCB f α δ=f ds:=by
 unfold eCB;rw [h]
theorem Yz{n:Nat}{f:Env->Option Out}{vs:List D}{δ:Env}{d:D}(h1:(vs.map some++List.replicate (n-vs.length) none)=δ)(h2:f δ=some (.rt d)):DL.run n f vs=some d:=by
 unfold DL.run;rw [h1,h2]
theorem nil_of{δ:Env}:eNil δ=some []:=rfl
theorem ZcF{t:List (String×Bool)}{a:Env->Option D}{δ:Env}{d:D}{b:Bool}(h1:a δ=some d)(h2:UJ t d=some b):Xz t a δ=some (.bl b):=by
 unfold Xz;rw [h1];dsimp only;rw [h2]
end DL
namespace DL
open PySem PySem.Spec L2
theorem ZeW{x:D}(hs:Zx x=false)(h:SeqAt.shaped (toP x)=true):eqD x x=some (.bl true):=by
 unfold eqD;rw [if_neg (by simp [hs]),h,if_pos (by rfl)];rw [SeqAt.eqv_refl _ (SeqAt.canLay_of_shaped h)]
theorem ZeX{x:D}(hs:Zx x=false)(h:SeqAt.shaped (toP x)=true):neD x x=some (.bl false):=by
 unfold neD;rw [ZeW hs h];rfl
def Vs(w:List Nat):Prop:=∀c∈w,c<1114112
theorem ZeY{w:List Nat}(h:Vs w):PyData.strOk (tx w)=true:=by
 unfold PyData.strOk tx;simpa [Vs]using h
end DL
namespace DL
open PySem PySem.Spec L2
theorem add_int(i j:Int):addX (.int i) (.int j)=some (.int (i+j)):=rfl
theorem add_str{a b:List Nat}(h:a.length+b.length<=100000):addX (.str a) (.str b)=some (.str (a++b)):=by
 show(if a.length+b.length<=PySem.sizeLine then some (D.str (a++b))else none)=_;rw [if_pos (by rw [PySem.sizeLine_eq];omega)]
theorem ZgD{a b:List D}(h:a.length+b.length<=100000):addX (.lst a) (.lst b)=some (.lst (a++b)):=by
 show(if a.length+b.length<=PySem.sizeLine then some (D.lst (a++b))else none)=_;rw [if_pos (by rw [PySem.sizeLine_eq];omega)]
theorem Ul{i j:Int}(h1 : -1000<=j)(h2:j<=1000):mulX (.int i) (.int j)=some (.int (i*j)):=if_pos (.inr (.inr ⟨by omega,by omega⟩))
theorem ZgE{a:List D}{n:Nat}(h:a.length*n<=100000)(hn:n<=100000):mulX (.lst a) (.int (n:Int))=some (.lst (List.replicate n a).flatten):=by
 unfold mulX;dsimp only;rw [Int.toNat_natCast,if_pos ⟨by omega,by omega,by rw [PySem.sizeLine_eq];omega⟩]
theorem ZgF{n a:Nat}(h:a<n):ixN n (a:Int)=some a:=by
 unfold ixN;rw [if_pos (by omega),if_pos (by omega),Int.toNat_natCast]
theorem Um{xs:List D}{a:Nat}{x:D}(h:xs[a]? = some x):ixD (.lst xs) (.int (a:Int))=some x:=QM h
theorem ix_tup{xs:List D}{a:Nat}{x:D}(h:xs[a]? = some x):ixD (.tup xs) (.int (a:Int))=some x:=QM h
theorem ix_str{cs:List Nat}{a:Nat}{c:Nat}(h:cs[a]? = some c)(hl:cs.length<=100000):ixD (.str cs) (.int (a:Int))=some (.str [c]):=Zgy (by rw [PySem.sizeLine_eq];omega) (QM h)
theorem Q9{cs:List Int}{a:Nat}(h:a<cs.length):ixD (.lst (cs.map D.int)) (.int (a:Int))=some (.int (cs.getD a 0)):=by
 refine Um ?_;rw [List.getElem?_map,List.getElem?_eq_getElem h,List.getD_eq_getElem?_getD,List.getElem?_eq_getElem h];rfl
theorem ZfA{i:Int}(h:0<=i):∃a:Nat,i=(a:Int):=⟨i.toNat,(Int.toNat_of_nonneg h).symm⟩
theorem len_str{cs:List Nat}(h:cs.length<=100000):lenD [.str cs]=some (.int (cs.length:Int)):=if_pos (by rw [PySem.sizeLine_eq];omega)
theorem len_lst{xs:List D}:lenD [.lst xs]=some (.int (xs.length:Int)):=rfl
theorem len_tup{xs:List D}:lenD [.tup xs]=some (.int (xs.length:Int)):=rfl
theorem Zd9{c:Nat}{ms:List Nat}(h:c∈ms):∃i:Nat,Xv c ms=(i:Int)/\ms[i]? = some c/\i<ms.length:=by
 unfold Xv;cases e:ms.findIdx? (· == c)with
 |none=>
  have:=List.findIdx?_eq_none_iff.mp e c h;simp at this
 |some i=>
  obtain⟨h1,h2,_⟩:=List.findIdx?_eq_some_iff_getElem.mp e;refine⟨i,rfl,?_,h1⟩;rw [List.getElem?_eq_getElem h1]
  congr 1
  simpa using h2
theorem ZgG{c:String}{n:Nat}{m:List D->Option D}{α:Env->Option (List D)}{δ:Env}{ds:List D}(h:α δ=some ds)(hn:ds.length+1=n):VY c n m [] α δ=m (.obj c [] []::ds):=by
 unfold VY;rw [h];dsimp only;rw [List.append_nil,if_pos (by rw [List.length_cons];exact hn)]
end DL
namespace K44
open PySem PySem.Spec L2 DL
def Y1:List String:=["Table"]
def XV:List String:=["Table"]
def Ja:List String:=["Table"]
def YR:List String:=["Table"]
def YS:List String:=["Table"]
def Jb:List (String×Bool):=[("NoneType",false),("bool",true),("int",false),("str",false),("list",false),("tuple",false),("Table",false)]
def Jc:List (String×Bool):=[("NoneType",false),("bool",true),("int",true),("str",false),("list",false),("tuple",false),("Table",false)]
def Jd:List (String×Bool):=[("NoneType",false),("bool",false),("int",false),("str",false),("list",true),("tuple",false),("Table",false)]
noncomputable def f_QI:DL.Env->Option Out:=
 (ZA (eCB lenD (Zb (eOp ixD (ZF YS "ways" (Za 0)) (eC (.int 0))) eNil)))
noncomputable def ZiM:List D->Option D:=run 1 f_QI
noncomputable def V1:MTab:=[("Table",1,ZiM)]
noncomputable def f_QS:DL.Env->Option Out:=
 (Zd (sIf (YJ (xB (eCB (Qb λbs=>bs.all id) (Zb (ZT (ZJ (Za 1)) (Zo 0) (λ_=>some true) (Ua (ZQ λi j=>decide (i<=j)) (ZQ λi j=>decide (i<j)) (eC (.int 0)) (Za 0) (YZ "signs" V1 (Za 1) eNil)) 1 [0]) eNil)))) sNever sNext)
 (Zd (Zg 2 (Zv (Zb (ZF YR "lead" (Za 0)) eNil)))
 (Zd (Zg 3 (ZF XV "first" (Za 0)))
 (Zd (ZB (ZJ (eOp Uj (eCB Vo (Zb (Za 1) eNil)) (eOp Qi (Zv (Zb (eC (.int 0)) eNil)) (ZF Y1 "ahead" (Za 0))))) (Zo 4) (Zd (Zg 5 (eOp ixD (eOp ixD (ZF YS "ways" (Za 0)) (Za 3)) (Za 4)))
 (Zd (ZW 2 (eOp ixD (Za 5) (eC (.int 0))))
 (Zg 3 (eOp ixD (Za 5) (eC (.int 1)))))))
 (ZA (eBM joinD (eC (.str [])) (Zb (Za 2) eNil)))))))
noncomputable def Qv:List D->Option D:=run 6 f_QS
noncomputable def f_QA:DL.Env->Option Out:=
 (ZA (eCB lenD (Zb (eOp ixD (eOp ixD (eOp ixD (ZF YS "ways" (Za 0)) (eC (.int 0))) (eC (.int 0))) (eC (.int 0))) eNil)))
noncomputable def ZiN:List D->Option D:=run 1 f_QA
noncomputable def Qw:MTab:=[("Table",1,ZiN)]
noncomputable def f_QC:DL.Env->Option Out:=
 (Zd (Zg 2 (YZ "block_length" Qw (Za 0) eNil))
 (Zd (sIf (xOr (xB (eOp (ZQ λi j=>decide (i<j)) (eCB lenD (Zb (Za 1) eNil)) (eCB lenD (Zb (ZF YR "lead" (Za 0)) eNil)))) (xB (eOp neD (eOp modW (eOp subD (eCB lenD (Zb (Za 1) eNil)) (eCB lenD (Zb (ZF YR "lead" (Za 0)) eNil))) (Za 2)) (eC (.int 0))))) sNever sNext)
 (Zd (Zg 3 (ZT (ZH (Zb (eCB lenD (Zb (ZF YR "lead" (Za 0)) eNil)) (Zb (eCB lenD (Zb (Za 1) eNil)) (Zb (Za 2) eNil)))) (Zo 0) (λ_=>some true) (eSl (Za 1) (xP (Za 0)) (xP (eOp addX (Za 0) (Za 2)))) 1 [1,2]))
 (Zd (sIf (xB (eOp (ZQ λi j=>decide (i<j)) (eCB lenD (Zb (Za 3) eNil)) (ZF Y1 "ahead" (Za 0)))) sNever sNext)
 (ZA (Za 3))))))
noncomputable def Qx:List D->Option D:=run 4 f_QC
noncomputable def f_QE:DL.Env->Option Out:=
 (Zd (Zg 3 (eC (.dtt [] [])))
 (Zd (ZB (ZJ (Za 1)) (Zo 4) (ZB (Qq (eOp ixD (ZF YS "ways" (Za 0)) (Za 4))) (ZS 2 (ZG 5 (ZG 6 gsNil))) (sIf (xB (eOp eqD (eOp ixD (Za 6) (eC (.int 0))) (eOp ixD (Za 2) (eC (.int 0))))) (Vr 3 (Yc (Zb (Za 5) (Zb (eOp ixD (Za 6) (eC (.int 1))) eNil))) (eC (.bl true))) sNext)))
 (Zd (ZB (ZJ (eSl (Za 2) (xP (eC (.int 1))) xNoP)) (Zo 7) (Zd (Zg 8 (eC (.dtt [] [])))
 (Zd (Qr 3 2 (ZG 5 (ZG 4 gsNil)) (ZB (ZJ (eOp ixD (ZF YS "ways" (Za 0)) (Za 4))) (Zo 6) (sIf (xB (eOp eqD (eOp ixD (Za 6) (eC (.int 0))) (Za 7))) (Vr 8 (Yc (Zb (Za 5) (Zb (eOp ixD (Za 6) (eC (.int 1))) eNil))) (eC (.bl true))) sNext)))
 (Q5 3 8))))
 (Zd (Qs 3 9 2 (ZG 0 (ZG 1 gsNil)) (λ_=>some true) (Za 0) 2 [])
 (ZA (ZT (ZH (Zb (YZ "signs" V1 (Za 0) eNil) eNil)) (Zo 0) (xB (eOp (inD false) (Za 0) (Za 1))) (Za 0) 1 [9]))))))
noncomputable def Je:List D->Option D:=run 10 f_QE
noncomputable def f_QT:DL.Env->Option Out:=
 (Zd (sIf (YJ (xB (eBM startsD (Za 1) (Zb (ZF YR "lead" (Za 0)) eNil)))) sNever sNext)
 (Zd (Zg 2 (Zy 2 Qx [] (Zb (Za 0) (Zb (Za 1) eNil))))
 (Zd (Zg 3 (ZF XV "first" (Za 0)))
 (Zd (Zg 4 (Zv eNil))
 (Zd (ZB (ZH (Zb (eOp subD (eCB lenD (Zb (Za 2) eNil)) (ZF Y1 "ahead" (Za 0))) eNil)) (Zo 5) (Zd (Zg 6 (Zy 3 Je [] (Zb (Za 0) (Zb (Zv (Zb (Za 3) eNil)) (Zb (eSl (Za 2) (xP (Za 5)) (xP (eOp addX (eOp addX (Za 5) (ZF Y1 "ahead" (Za 0))) (eC (.int 1))))) eNil)))))
 (Zd (sIf (xB (eOp eqD (eCB lenD (Zb (Za 6) eNil)) (eC (.int 0)))) sNever sNext)
 (Zd (ZW 4 (eOp ixD (Za 6) (eC (.int 0))))
 (Zg 3 (eOp ixD (eOp ixD (eOp ixD (ZF YS "ways" (Za 0)) (Za 3)) (eOp ixD (Za 6) (eC (.int 0)))) (eC (.int 1))))))))
 (ZA (Za 4)))))))
noncomputable def Qy:List D->Option D:=run 7 f_QT
noncomputable def f_QN:DL.Env->Option Out:=
 (Zd (Y6 0 YR "lead" (Za 1))
 (Zd (Y6 0 XV "first" (Za 2))
 (Zd (Y6 0 Y1 "ahead" (Za 3))
 (Zd (Y6 0 Ja "homes" (eCB Z0 (Zb (Za 4) eNil)))
 (Y6 0 YS "ways" (eCB Z0 (Zb (ZT (ZJ (Za 5)) (Zo 0) (λ_=>some true) (eCB Z0 (Zb (ZT (ZJ (Za 0)) (Zo 0) (λ_=>some true) (eCB Z0 (Zb (Za 0) eNil)) 1 []) eNil)) 1 []) eNil)))))))
noncomputable def Jf:List D->Option D:=runI 6 f_QN
noncomputable def f_QG:DL.Env->Option Out:=
 (Zd (sIf (xB (eOp (ZQ λi j=>decide (i<j)) (Za 1) (eCB lenD (Zb (Za 0) eNil)))) (ZA (eOp ixD (Za 0) (Za 1))) sNext)
 (ZA (eC (.int 0))))
noncomputable def YD:List D->Option D:=run 2 f_QG
noncomputable def f_QK:DL.Env->Option Out:=
 (Zd (Zg 3 (ZT (ZH (Zb (Za 2) eNil)) (Zo 0) (λ_=>some true) (eOp addX (eOp mulX (Za 0) (Za 0)) (Za 0)) 1 []))
 (Zd (ZB (ZH (Zb (Za 1) (Zb (eCB lenD (Zb (Za 0) eNil)) eNil))) (Zo 4) (Zd (Zg 5 (eOp modW (eOp subD (Za 4) (Za 1)) (Za 2)))
 (XS 3 (Za 5) (eOp modW (eOp addX (eOp mulX (eOp ixD (Za 3) (Za 5)) (eC (.int 31))) (eOp ixD (Za 0) (Za 4))) (eC (.int 1000000000039))))))
 (ZA (Za 3))))
noncomputable def Qz:List D->Option D:=run 6 f_QK
noncomputable def f_QO:DL.Env->Option Out:=
 (Zd (Zg 2 (eC (.str [97,98,99,100,101,102,103,104,105,106,107,108,109,110,111,112,113,114,115,116,117,118,119,120,121,122,48,49,50,51,52,53,54,55,56,57])))
 (ZA (eBM joinD (eC (.str [])) (Zb (ZT (ZH (Zb (Za 1) eNil)) (Zo 0) (λ_=>some true) (eOp ixD (Za 1) (eOp modW (eOp addX (Za 2) (eOp mulX (eC (.int 5)) (Za 0))) (eCB lenD (Zb (Za 1) eNil)))) 1 [2,0]) eNil))))
noncomputable def UO:List D->Option D:=run 3 f_QO
noncomputable def f_QB:DL.Env->Option Out:=
 (Zd (Zg 2 (Zv eNil))
 (Zd (ZB (ZH (Zb (Za 1) eNil)) (Zo 3) (Zd (Zg 4 (Zv eNil))
 (Zd (ZB (ZH (Zb (Za 1) eNil)) (Zo 5) (sIf (xOr (xB (eOp (ZQ λi j=>decide (j<i)) (eOp modW (eOp fdivW (Za 0) (eOp addX (eOp addX (eOp mulX (eC (.int 3)) (Za 3)) (Za 5)) (eC (.int 1)))) (eC (.int 3))) (eC (.int 0)))) (xB (eOp eqD (Za 5) (eOp modW (eOp addX (Za 3) (eC (.int 1))) (Za 1))))) (ZW 4 (Za 5)) (ZW 4 (eC .non))))
 (ZW 2 (eCB Z0 (Zb (Za 4) eNil))))))
 (ZA (eCB Z0 (Zb (Za 2) eNil)))))
noncomputable def Jg:List D->Option D:=run 6 f_QB
noncomputable def f_QD:DL.Env->Option Out:=
 (Zd (Zg 2 (Zv eNil))
 (Zd (ZB (ZH (Zb (eOp addX (Za 1) (eC (.int 1))) eNil)) (Zo 3) (Zd (Zg 4 (Zv (Zb (eOp addX (Za 3) (eC (.int 1))) (Zb (eC (.int 0)) eNil))))
 (Zd (sIf (xB (eOp eqD (Za 3) (Za 1))) (XS 4 (eC (.int 0)) (eC .non)) sNext)
 (Zd (sIf (xB (eOp (ZQ λi j=>decide (i<j)) (Za 3) (Za 0))) (XS 4 (eC (.int 1)) (eC .non)) sNext)
 (ZW 2 (eCB Z0 (Zb (Za 4) eNil)))))))
 (ZA (eCB Z0 (Zb (Za 2) eNil)))))
noncomputable def Jh:List D->Option D:=run 5 f_QD
noncomputable def f_QL:DL.Env->Option Out:=
 (Zd (sIf (xB (eOp eqD (eOp modW (Za 0) (eC (.int 2))) (eC (.int 0)))) (Zd (Zg 2 (eOp addX (eC (.int 2)) (eOp modW (eOp fdivW (Za 0) (eC (.int 2))) (eC (.int 2)))))
 (ZA (Yc (Zb (Zy 2 UO [] (Zb (Za 1) (Zb (Za 2) eNil))) (Zb (Zy 2 Jg [] (Zb (eOp fdivW (Za 0) (eC (.int 4))) (Zb (Za 2) eNil))) (Zb (eC (.int 1)) eNil)))))) sNext)
 (Zd (Zg 3 (eOp modW (eOp fdivW (Za 0) (eC (.int 2))) (eC (.int 4))))
 (ZA (Yc (Zb (Zy 2 UO [] (Zb (Za 1) (Zb (eC (.int 2)) eNil))) (Zb (Zy 2 Jh [] (Zb (eOp modW (eOp fdivW (Za 0) (eC (.int 8))) (eOp addX (Za 3) (eC (.int 1)))) (Zb (Za 3) eNil))) (Zb (Za 3) eNil)))))))
noncomputable def Ji:List D->Option D:=run 4 f_QL
noncomputable def f_QJ:DL.Env->Option Out:=
 (Zd (Zg 4 (Zv (Zb (Yc (Zb (eC (.str [])) (Zb (Za 2) eNil))) eNil)))
 (Zd (ZB (ZH (Zb (Za 3) eNil)) (Zo 5) (Zd (Zg 6 (Zv eNil))
 (Zd (ZB (ZJ (Za 4)) (ZS 2 (ZG 7 (ZG 8 gsNil))) (ZB (ZH (Zb (eCB lenD (Zb (Za 0) eNil)) eNil)) (Zo 9) (sIf (xB (Xx (eOp ixD (eOp ixD (Za 1) (Za 8)) (Za 9)))) (ZW 6 (Yc (Zb (eOp addX (Za 7) (eOp ixD (Za 0) (Za 9))) (Zb (eOp ixD (eOp ixD (Za 1) (Za 8)) (Za 9)) eNil)))) sNext)))
 (Zg 4 (Za 6)))))
 (ZA (Za 4))))
noncomputable def Jj:List D->Option D:=run 10 f_QJ
noncomputable def f_QH:DL.Env->Option Out:=
 (Zd (Zg 3 (Zv eNil))
 (Zd (ZB (ZH (Zb (eC (.int 4)) eNil)) (Zo 4) (Zd (Zg 5 (Zv eNil))
 (Zd (ZB (ZJ (Za 1)) (Zo 6) (Zd (Zg 7 (Zy 4 Jj [] (Zb (eOp ixD (Za 0) (eC (.int 0))) (Zb (eOp ixD (Za 0) (eC (.int 1))) (Zb (Za 6) (Zb (eOp addX (eC (.int 1)) (eOp modW (eOp addX (Za 2) (Za 4)) (eC (.int 4)))) eNil))))))
 (ZW 5 (ZT (ZJ (Za 7)) (Zo 0) (xB (eOp (inD false) (eOp ixD (Za 0) (eC (.int 1))) (Za 1))) (Za 0) 1 [1]))))
 (Zd (Zg 8 (eCB minQD (Zb (ZT (ZJ (Za 5)) (Zo 0) (λ_=>some true) (eCB lenD (Zb (Za 0) eNil)) 1 []) eNil)))
 (Zd (sIf (xB (eOp (ZQ λi j=>decide (j<i)) (Za 8) (eC (.int 1)))) (ZA (Za 5)) sNext)
 (sIf (Xa (xB (eOp eqD (Za 8) (eC (.int 1)))) (xB (eOp eqD (Za 3) (Zv eNil)))) (Zg 3 (Za 5)) sNext))))))
 (ZA (Za 3))))
noncomputable def Jk:List D->Option D:=run 9 f_QH
noncomputable def f_QM:DL.Env->Option Out:=
 (Zd (Zg 2 (Qk (eC (.int 0)) (eC (.str []))))
 (Zd (Zg 3 (Zv (Zb (eC (.int 0)) eNil)))
 (Zd (Zg 4 (eC (.int 0)))
 (Zd (VU (xB (eOp (ZQ λi j=>decide (i<j)) (Za 4) (eCB lenD (Zb (Za 3) eNil)))) (Zd (ZB (ZH (Zb (eCB lenD (Zb (Za 0) eNil)) eNil)) (Zo 5) (Zd (Zg 6 (eOp ixD (eOp ixD (Za 1) (eOp ixD (Za 3) (Za 4))) (Za 5)))
 (sIf (Xa (xB (Xx (Za 6))) (xB (eOp (inK true) (Za 6) (Za 2)))) (Zd (Uh 2 (Za 6) (eOp addX (eOp Vq (Za 2) (eOp ixD (Za 3) (Za 4))) (eOp ixD (Za 0) (Za 5))))
 (ZW 3 (Za 6))) sNext)))
 (Zg 4 (eOp addX (Za 4) (eC (.int 1))))))
 (ZA (Za 2))))))
noncomputable def Jl:List D->Option D:=run 7 f_QM
noncomputable def f_QF:DL.Env->Option Out:=
 (Zd (Zg 5 (eC (.int 1)))
 (Zd (ZB (ZH (Zb (Za 3) eNil)) (Zo 6) (Zg 5 (eOp mulX (Za 5) (Za 2))))
 (Zd (Zg 7 (Zv eNil))
 (Zd (Zg 8 (Zv eNil))
 (Zd (ZB (ZJ (Za 0)) (Zo 9) (ZB (ZH (Zb (Za 5) eNil)) (Zo 10) (Zd (Zg 11 (Zv eNil))
 (Zd (ZB (ZH (Zb (Za 2) eNil)) (Zo 12) (Zd (Zg 13 (eOp modW (eOp addX (Za 12) (eOp fdivW (eOp ixD (Za 4) (eOp modW (eCB lenD (Zb (Za 7) eNil)) (eC (.int 8)))) (eC (.int 3)))) (Za 2)))
 (Zd (Zg 14 (Za 13))
 (Zd (Zg 15 (eC (.int 0)))
 (Zd (sIf (xB (eOp (ZQ λi j=>decide (j<i)) (Za 3) (eC (.int 0)))) (Zd (Zg 14 (eOp fdivW (Za 10) (eOp fdivW (Za 5) (Za 2))))
 (Zg 15 (eOp addX (eOp mulX (eOp modW (Za 10) (eOp fdivW (Za 5) (Za 2))) (Za 2)) (Za 13)))) sNext)
 (Zd (XD (ZS 2 (ZG 16 (ZG 17 gsNil))) (eOp ixD (eOp ixD (Za 1) (eLM lindexD (Za 0) (Za 9))) (Za 14)))
 (ZW 11 (Yc (Zb (Za 16) (Zb (eOp addX (eOp mulX (eLM lindexD (Za 0) (Za 17)) (Za 5)) (Za 15)) eNil))))))))))
 (Zd (ZW 7 (Za 9))
 (ZW 8 (eCB Z0 (Zb (Za 11) eNil))))))))
 (ZA (Yc (Zb (eCB Z0 (Zb (Za 7) eNil)) (Zb (eCB Z0 (Zb (Za 8) eNil)) eNil)))))))))
noncomputable def Jm:List D->Option D:=run 18 f_QF
noncomputable def f_QR:DL.Env->Option Out:=
 (Zd (Zg 2 (Zy 2 Ji [] (Zb (Zy 2 YD [] (Zb (Za 0) (Zb (eC (.int 1)) eNil))) (Zb (Zy 2 YD [] (Zb (Za 0) (Zb (eC (.int 2)) eNil))) eNil))))
 (Zd (Zg 3 (Qp (Zb (eCB lenD (Zb (eOp ixD (Za 2) (eC (.int 1))) eNil)) eNil)))
 (Zd (sIf (xB (eOp eqD (eOp modW (eOp fdivW (Zy 2 YD [] (Zb (Za 0) (Zb (eC (.int 2)) eNil))) (eC (.int 36))) (eC (.int 2))) (eC (.int 1)))) (Zg 3 (Zv (Zb (eOp modW (eOp fdivW (Zy 2 YD [] (Zb (Za 0) (Zb (eC (.int 2)) eNil))) (eC (.int 72))) (eCB lenD (Zb (Za 3) eNil))) eNil))) sNext)
 (Zd (Zg 4 (Zy 3 Jk [] (Zb (Za 2) (Zb (Za 3) (Zb (Zy 2 YD [] (Zb (Za 0) (Zb (eC (.int 3)) eNil))) eNil)))))
 (Zd (Zg 5 (eCB minQD (Zb (eOp Uj (Zv (Zb (eOp addX (eC (.int 1)) (eOp modW (eOp fdivW (Zy 2 YD [] (Zb (Za 0) (Zb (eC (.int 3)) eNil))) (eC (.int 4))) (eC (.int 3)))) eNil)) (ZT (ZJ (Za 4)) (Zo 0) (λ_=>some true) (eCB lenD (Zb (Za 0) eNil)) 1 [])) eNil)))
 (Zd (Zg 6 (eOp ixD (Zv (Zb (eC (.int 0)) (Zb (eC (.int 0)) (Zb (eC (.int 1)) (Zb (eC (.int 1)) (Zb (eC (.int 1)) (Zb (eC (.int 2)) (Zb (eC (.int 2)) (Zb (eC (.int 3)) eNil))))))))) (eOp modW (eOp fdivW (Zy 2 YD [] (Zb (Za 0) (Zb (eC (.int 3)) eNil))) (eC (.int 12))) (eC (.int 8)))))
 (Zd (sIf (xB (eOp (ZQ λi j=>decide (j<i)) (eCB lenD (Zb (Za 3) eNil)) (eC (.int 2)))) (Zg 6 (eCB minD (Zb (Za 6) (Zb (eC (.int 2)) eNil)))) sNext)
 (Zd (sIf (xB (eOp eqD (Za 5) (eC (.int 3)))) (Zg 6 (eCB minD (Zb (Za 6) (Zb (eC (.int 1)) eNil)))) sNext)
 (Zd (sIf (xB (eOp eqD (Za 5) (eC (.int 1)))) (Zg 6 (eC (.int 0))) sNext)
 (Zd (XD (ZS 2 (ZG 7 (ZG 8 gsNil))) (Zy 5 Jm [] (Zb (Za 3) (Zb (Za 4) (Zb (Za 5) (Zb (Za 6) (Zb (Za 1) eNil)))))))
 (ZA (Yc (Zb (Za 2) (Zb (Za 7) (Zb (Za 8) (Zb (Za 6) eNil))))))))))))))))
noncomputable def Jn:List D->Option D:=run 9 f_QR
noncomputable def f_QP:DL.Env->Option Out:=
 (Zd (Zg 2 (eC (.int 0)))
 (Zd (ZB (ZJ (Za 1)) (Zo 3) (Zd (Zg 2 (eOp ixD (eOp ixD (eOp ixD (Za 0) (eC (.int 1))) (Za 2)) (eBM indexD (eOp ixD (Za 0) (eC (.int 0))) (Zb (Za 3) eNil))))
 (sIf (xB (UF (Za 2))) (ZA (eC (.bl false))) sNext)))
 (ZA (eC (.bl true)))))
noncomputable def Jo:List D->Option D:=run 4 f_QP
noncomputable def f_QQ:DL.Env->Option Out:=
 (Zd (Zg 3 (Zy 2 Qv [] (Zb (Za 1) (Zb (eCB Vo (Zb (Za 2) eNil)) eNil))))
 (Zd (Zg 4 (Zy 2 Qy [] (Zb (Za 1) (Zb (Za 3) eNil))))
 (Zd (sIf (xOr (YJ (xB (Xz Jd (Za 4)))) (xOr (xB (eOp neD (Za 4) (Za 2))) (YJ (xB (Zy 2 Jo [] (Zb (Za 0) (Zb (Za 3) eNil))))))) (ZA (eC (.bl false))) sNext)
 (Zd (ZB (ZJ (Za 4)) (Zo 5) (sIf (xOr (YJ (xB (Xz Jc (Za 5)))) (xB (Xz Jb (Za 5)))) (ZA (eC (.bl false))) sNext))
 (ZA (eC (.bl true)))))))
noncomputable def Uo:List D->Option D:=run 6 f_QQ
noncomputable def f_QU:DL.Env->Option Out:=
 (Zd (Zg 1 (Zy 3 Qz [] (Zb (Za 0) (Zb (eC (.int 4)) (Zb (eC (.int 20)) eNil)))))
 (Zd (XD (ZS 4 (ZG 2 (ZG 3 (ZG 4 (ZG 5 gsNil))))) (Zy 2 Jn [] (Zb (Za 0) (Zb (Za 1) eNil))))
 (Zd (Zg 6 (eOp modW (Zy 2 YD [] (Zb (Za 0) (Zb (eC (.int 0)) eNil))) (eCB lenD (Zb (Za 3) eNil))))
 (Zd (Zg 7 (eOp addX (Za 5) (eOp modW (eOp fdivW (Zy 2 YD [] (Zb (Za 0) (Zb (eC (.int 0)) eNil))) (eC (.int 16))) (eC (.int 3)))))
 (Zd (Zg 8 (VY "Table" 6 Jf [] (Zb (eOp Vq (Zy 2 Jl [] (Zb (eOp ixD (Za 2) (eC (.int 0))) (Zb (eOp ixD (Za 2) (eC (.int 1))) eNil))) (eOp ixD (Za 3) (Za 6))) (Zb (Za 6) (Zb (Za 7) (Zb (Za 3) (Zb (Za 4) eNil)))))))
 (Zd (Zg 9 (ZT (ZJ (eSl (Za 0) (xP (eC (.int 4))) (xP (eC (.int 204))))) (Zo 0) (λ_=>some true) (eOp modW (Za 0) (eCB lenD (Zb (eOp ixD (Za 1) (eC (.int 0))) eNil))) 1 [4]))
 (Zd (ZB (ZJ (Zv (Zb (eC (.int 0)) (Zb (eOp ixD (Za 1) (eC (.int 17))) (Zb (eOp ixD (Za 1) (eC (.int 18))) (Zb (eOp ixD (Za 1) (eC (.int 19))) eNil)))))) (Zo 10) (sIf (YJ (xB (Zy 3 Uo [] (Zb (Za 2) (Zb (Za 8) (Zb (eSl (Za 9) xNoP (xP (eOp modW (Za 10) (eOp addX (eCB lenD (Zb (Za 9) eNil)) (eC (.int 1)))))) eNil)))))) (ZA (eC (.bl false))) sNext))
 (ZA (Zy 3 Uo [] (Zb (Za 2) (Zb (Za 8) (Zb (Za 9) eNil))))))))))))
noncomputable def Jp:List D->Option D:=run 11 f_QU
end K44
namespace K44
open PySem PySem.Spec L2 DL
def top(i:Nat):Stmt:=PySem.Challenge.pw_grooveway_k44_whole_read_back.main.body.getD i (.Pass ⟨0,0,0,0⟩)
abbrev Vt:Stmt:=JN (top 10) 1
abbrev X6:Stmt:=top 5
abbrev Vu:Stmt:=JN (top 10) 2
abbrev X7:Stmt:=top 6
abbrev XW:Stmt:=top 7
abbrev Vv:Stmt:=top 8
abbrev X8:Stmt:=JN (top 10) 0
abbrev Vw:Stmt:=top 12
abbrev X9:Stmt:=top 13
abbrev Va:Stmt:=top 14
abbrev Vx:Stmt:=top 15
abbrev Vy:Stmt:=top 16
abbrev Vz:Stmt:=top 17
abbrev VB:Stmt:=top 18
abbrev XX:Stmt:=top 19
abbrev VC:Stmt:=top 20
abbrev VD:Stmt:=top 21
abbrev Vb:Stmt:=top 22
abbrev VH:Stmt:=top 23
abbrev VL:Stmt:=top 24
abbrev Xp:Stmt:=top 25
theorem Zi8:FnScope ["self"] ["self"] (defScope Vt):=⟨rfl,rfl,rfl,by decide +kernel,rfl,by decide +kernel,by decide +kernel⟩
theorem Zi9:FnScope ["table", "signs", "row", "place", "sign", "way"] ["table", "signs"] (defScope X6):=⟨rfl,rfl,rfl,by decide +kernel,rfl,by decide +kernel,by decide +kernel⟩
theorem Zja:FnScope ["self"] ["self"] (defScope Vu):=⟨rfl,rfl,rfl,by decide +kernel,rfl,by decide +kernel,by decide +kernel⟩
theorem Zjb:FnScope ["table", "row", "length", "blocks"] ["table", "row"] (defScope X7):=⟨rfl,rfl,rfl,by decide +kernel,rfl,by decide +kernel,by decide +kernel⟩
theorem Zjc:FnScope ["table", "places", "blocks", "ends", "place", "sign", "way", "block", "further", "firsts"] ["table", "places", "blocks"] (defScope XW):=⟨rfl,rfl,rfl,by decide +kernel,rfl,by decide +kernel,by decide +kernel⟩
theorem Zjd:FnScope ["table", "row", "blocks", "place", "signs", "number", "spelled"] ["table", "row"] (defScope Vv):=⟨rfl,rfl,rfl,by decide +kernel,rfl,by decide +kernel,by decide +kernel⟩
theorem Zje:FnScope ["self", "lead", "first", "ahead", "homes", "ways"] ["self", "lead", "first", "ahead", "homes", "ways"] (defScope X8):=⟨rfl,rfl,rfl,by decide +kernel,rfl,by decide +kernel,by decide +kernel⟩
theorem Zjf:FnScope ["script", "k"] ["script", "k"] (defScope Vw):=⟨rfl,rfl,rfl,by decide +kernel,rfl,by decide +kernel,by decide +kernel⟩
theorem Zjg:FnScope ["script", "behind", "many", "found", "k", "at"] ["script", "behind", "many"] (defScope X9):=⟨rfl,rfl,rfl,by decide +kernel,rfl,by decide +kernel,by decide +kernel⟩
theorem Zjh:FnScope ["cell", "many", "some"] ["cell", "many"] (defScope Va):=⟨rfl,rfl,rfl,by decide +kernel,rfl,by decide +kernel,by decide +kernel⟩
theorem Zji:FnScope ["cell", "many", "ways", "room", "row", "k"] ["cell", "many"] (defScope Vx):=⟨rfl,rfl,rfl,by decide +kernel,rfl,by decide +kernel,by decide +kernel⟩
theorem Zjj:FnScope ["fewest", "most", "ways", "room", "row"] ["fewest", "most"] (defScope Vy):=⟨rfl,rfl,rfl,by decide +kernel,rfl,by decide +kernel,by decide +kernel⟩
theorem Zjk:FnScope ["cell", "other", "many", "most"] ["cell", "other"] (defScope Vz):=⟨rfl,rfl,rfl,by decide +kernel,rfl,by decide +kernel,by decide +kernel⟩
theorem Zjl:FnScope ["marks", "ways", "room", "q", "blocks", "step", "longer", "block", "here", "k"] ["marks", "ways", "room", "q"] (defScope VB):=⟨rfl,rfl,rfl,by decide +kernel,rfl,by decide +kernel,by decide +kernel⟩
theorem Zjm:FnScope ["ground", "base", "cell", "best", "step", "found", "room", "blocks", "fewest"] ["ground", "base", "cell"] (defScope XX):=⟨rfl,rfl,rfl,by decide +kernel,rfl,by decide +kernel,by decide +kernel⟩
theorem Zjn:FnScope ["marks", "ways", "rows", "ahead", "at", "k", "there"] ["marks", "ways"] (defScope VC):=⟨rfl,rfl,rfl,by decide +kernel,rfl,by decide +kernel,by decide +kernel⟩
theorem Zjo:FnScope ["base", "choices", "n", "depth", "cells", "spread", "k", "homes", "ways", "room", "kept", "row", "sign", "new", "picked", "later", "block", "there"] ["base", "choices", "n", "depth", "cells"] (defScope VD):=⟨rfl,rfl,rfl,by decide +kernel,rfl,by decide +kernel,by decide +kernel⟩
theorem Zjp:FnScope ["script", "cells", "ground", "base", "choices", "n", "depth", "homes", "ways"] ["script", "cells"] (defScope Vb):=⟨rfl,rfl,rfl,by decide +kernel,rfl,by decide +kernel,by decide +kernel⟩
theorem Zjq:FnScope ["ground", "row", "room", "sign"] ["ground", "row"] (defScope VH):=⟨rfl,rfl,rfl,by decide +kernel,rfl,by decide +kernel,by decide +kernel⟩
theorem Zjr:FnScope ["ground", "table", "signs", "row", "found", "sign"] ["ground", "table", "signs"] (defScope VL):=⟨rfl,rfl,rfl,by decide +kernel,rfl,by decide +kernel,by decide +kernel⟩
theorem Zjs:FnScope ["script", "cells", "ground", "homes", "ways", "late", "first", "ahead", "table", "signs", "cell"] ["script"] (defScope Xp):=⟨rfl,rfl,rfl,by decide +kernel,rfl,by decide +kernel,by decide +kernel⟩
structure Adr where
 a_QI:Addr
 d_QI:FuncData
 a_QS:Addr
 d_QS:FuncData
 a_QA:Addr
 d_QA:FuncData
 a_QC:Addr
 d_QC:FuncData
 a_QE:Addr
 d_QE:FuncData
 a_QT:Addr
 d_QT:FuncData
 a_QN:Addr
 d_QN:FuncData
 a_QG:Addr
 d_QG:FuncData
 a_QK:Addr
 d_QK:FuncData
 a_QO:Addr
 d_QO:FuncData
 a_QB:Addr
 d_QB:FuncData
 a_QD:Addr
 d_QD:FuncData
 a_QL:Addr
 d_QL:FuncData
 a_QJ:Addr
 d_QJ:FuncData
 a_QH:Addr
 d_QH:FuncData
 a_QM:Addr
 d_QM:FuncData
 a_QF:Addr
 d_QF:FuncData
 a_QR:Addr
 d_QR:FuncData
 a_QP:Addr
 d_QP:FuncData
 a_QQ:Addr
 d_QQ:FuncData
 a_QU:Addr
 d_QU:FuncData
 c_Table:Addr
def Adr.c(t:Adr):String->Addr:=λc=>if c = "Table" then t.c_Table else 0
structure Txt(K:PySem.W.Frag)(mg:Str->Option Value)(t:Adr):Prop where
 f_QI:FunX K "signs" "Table.signs" Vt t.a_QI t.d_QI
 b_QI:Binds K t.d_QI ["self"] []
 k_QI:keepIn K (.ref t.a_QI)=true
 f_QS:FunX K "written" "written" X6 t.a_QS t.d_QS
 b_QS:Binds K t.d_QS ["table", "signs"] []
 g_QS:mg "written" = some (.ref t.a_QS)
 k_QS:keepIn K (.ref t.a_QS)=true
 f_QA:FunX K "block_length" "Table.block_length" Vu t.a_QA t.d_QA
 b_QA:Binds K t.d_QA ["self"] []
 k_QA:keepIn K (.ref t.a_QA)=true
 f_QC:FunX K "blocks_behind" "blocks_behind" X7 t.a_QC t.d_QC
 b_QC:Binds K t.d_QC ["table", "row"] []
 g_QC:mg "blocks_behind" = some (.ref t.a_QC)
 k_QC:keepIn K (.ref t.a_QC)=true
 f_QE:FunX K "signs_spelled" "signs_spelled" XW t.a_QE t.d_QE
 b_QE:Binds K t.d_QE ["table", "places", "blocks"] []
 g_QE:mg "signs_spelled" = some (.ref t.a_QE)
 k_QE:keepIn K (.ref t.a_QE)=true
 f_QT:FunX K "read" "read" Vv t.a_QT t.d_QT
 b_QT:Binds K t.d_QT ["table", "row"] []
 g_QT:mg "read" = some (.ref t.a_QT)
 k_QT:keepIn K (.ref t.a_QT)=true
 f_QN:FunX K "__init__" "Table.__init__" X8 t.a_QN t.d_QN
 b_QN:Binds K t.d_QN ["self", "lead", "first", "ahead", "homes", "ways"] []
 k_QN:keepIn K (.ref t.a_QN)=true
 f_QG:FunX K "_law_cell_at" "_law_cell_at" Vw t.a_QG t.d_QG
 b_QG:Binds K t.d_QG ["script", "k"] []
 g_QG:mg "_law_cell_at" = some (.ref t.a_QG)
 k_QG:keepIn K (.ref t.a_QG)=true
 f_QK:FunX K "_law_folded" "_law_folded" X9 t.a_QK t.d_QK
 b_QK:Binds K t.d_QK ["script", "behind", "many"] []
 g_QK:mg "_law_folded" = some (.ref t.a_QK)
 k_QK:keepIn K (.ref t.a_QK)=true
 f_QO:FunX K "_law_marks" "_law_marks" Va t.a_QO t.d_QO
 b_QO:Binds K t.d_QO ["cell", "many"] []
 g_QO:mg "_law_marks" = some (.ref t.a_QO)
 k_QO:keepIn K (.ref t.a_QO)=true
 f_QB:FunX K "_law_last_ways" "_law_last_ways" Vx t.a_QB t.d_QB
 b_QB:Binds K t.d_QB ["cell", "many"] []
 g_QB:mg "_law_last_ways" = some (.ref t.a_QB)
 k_QB:keepIn K (.ref t.a_QB)=true
 f_QD:FunX K "_law_gap_ways" "_law_gap_ways" Vy t.a_QD t.d_QD
 b_QD:Binds K t.d_QD ["fewest", "most"] []
 g_QD:mg "_law_gap_ways" = some (.ref t.a_QD)
 k_QD:keepIn K (.ref t.a_QD)=true
 f_QL:FunX K "_law_ground" "_law_ground" Vz t.a_QL t.d_QL
 b_QL:Binds K t.d_QL ["cell", "other"] []
 g_QL:mg "_law_ground" = some (.ref t.a_QL)
 k_QL:keepIn K (.ref t.a_QL)=true
 f_QJ:FunX K "_law_blocks" "_law_blocks" VB t.a_QJ t.d_QJ
 b_QJ:Binds K t.d_QJ ["marks", "ways", "room", "q"] []
 g_QJ:mg "_law_blocks" = some (.ref t.a_QJ)
 k_QJ:keepIn K (.ref t.a_QJ)=true
 f_QH:FunX K "_law_choices" "_law_choices" XX t.a_QH t.d_QH
 b_QH:Binds K t.d_QH ["ground", "base", "cell"] []
 g_QH:mg "_law_choices" = some (.ref t.a_QH)
 k_QH:keepIn K (.ref t.a_QH)=true
 f_QM:FunX K "_law_leads" "_law_leads" VC t.a_QM t.d_QM
 b_QM:Binds K t.d_QM ["marks", "ways"] []
 g_QM:mg "_law_leads" = some (.ref t.a_QM)
 k_QM:keepIn K (.ref t.a_QM)=true
 f_QF:FunX K "_law_delayed" "_law_delayed" VD t.a_QF t.d_QF
 b_QF:Binds K t.d_QF ["base", "choices", "n", "depth", "cells"] []
 g_QF:mg "_law_delayed" = some (.ref t.a_QF)
 k_QF:keepIn K (.ref t.a_QF)=true
 f_QR:FunX K "_law_late" "_law_late" Vb t.a_QR t.d_QR
 b_QR:Binds K t.d_QR ["script", "cells"] []
 g_QR:mg "_law_late" = some (.ref t.a_QR)
 k_QR:keepIn K (.ref t.a_QR)=true
 f_QP:FunX K "_law_walks" "_law_walks" VH t.a_QP t.d_QP
 b_QP:Binds K t.d_QP ["ground", "row"] []
 g_QP:mg "_law_walks" = some (.ref t.a_QP)
 k_QP:keepIn K (.ref t.a_QP)=true
 f_QQ:FunX K "_law_back" "_law_back" VL t.a_QQ t.d_QQ
 b_QQ:Binds K t.d_QQ ["ground", "table", "signs"] []
 g_QQ:mg "_law_back" = some (.ref t.a_QQ)
 k_QQ:keepIn K (.ref t.a_QQ)=true
 f_QU:FunX K "law" "law" Xp t.a_QU t.d_QU
 b_QU:Binds K t.d_QU ["script"] []
 g_QU:mg "law" = some (.ref t.a_QU)
 k_QU:keepIn K (.ref t.a_QU)=true
 n_ValueError:mg "ValueError" = none
 n_all:mg "all" = none
 n_bool:mg "bool" = none
 n_enumerate:mg "enumerate" = none
 n_int:mg "int" = none
 n_isinstance:mg "isinstance" = none
 n_len:mg "len" = none
 n_list:mg "list" = none
 n_min:mg "min" = none
 n_range:mg "range" = none
 n_tuple:mg "tuple" = none
 g_Table:mg "Table" = some (.ref t.c_Table)
 cl_Table:Cls K t.c_Table
 ci_Table:ClsI K t.c_Table
 mk_Table:Mk K t.c_Table t.a_QN
 fl_ahead:Ud K ⟨t.c,K⟩ Y1 "ahead"
 fl_first:Ud K ⟨t.c,K⟩ XV "first"
 fl_homes:Ud K ⟨t.c,K⟩ Ja "homes"
 fl_lead:Ud K ⟨t.c,K⟩ YR "lead"
 fl_ways:Ud K ⟨t.c,K⟩ YS "ways"
 me_Table_block_length:Meth K t.c_Table (Str.ofString "block_length") t.a_QA
 me_Table_signs:Meth K t.c_Table (Str.ofString "signs") t.a_QI
 isi_bool:IsiOk K ⟨t.c,K⟩ (.type "bool") Jb
 isi_int:IsiOk K ⟨t.c,K⟩ (.type "int") Jc
 isi_list:IsiOk K ⟨t.c,K⟩ (.type "list") Jd
end K44
namespace K44
open PySem PySem.W L2 HT
def kP:Params->PySem.W.Frag:=λP=>
 (nat_lit 2,dO .none [] 0) ::
 (nat_lit 3,dO (.type "dict") [de P "__name__" 165 (.str "law_grooveway_k44_whole_read_back" 319),de P "__doc__" 166 .none,de P "__package__" 167 .none,de P "__loader__" 168 (.builtin "__main__.__loader__#opaque"),de P "__spec__" 169 .none,de P "__annotations__" 170 (.ref 6),de P "__builtins__" 171 (.ref 4),de P "__file__" 173 (.str "/claim/cut.py" 172),de P "__cached__" 174 .none,de P "GrooveError" 206 (.ref 24),de P "BadSign" 222 (.ref 37),de P "Unread" 238 (.ref 49),de P "written" 246 (.ref 56),de P "blocks_behind" 252 (.ref 61),de P "signs_spelled" 258 (.ref 66),de P "read" 271 (.ref 73),de P "Table" 318 (.ref 102),de P "_law_cell_at" 328 (.ref 113),de P "_law_folded" 334 (.ref 118),de P "_law_marks" 340 (.ref 123),de P "_law_last_ways" 352 (.ref 130),de P "_law_gap_ways" 363 (.ref 137),de P "_law_ground" 373 (.ref 144),de P "_law_blocks" 389 (.ref 151),de P "_law_choices" 395 (.ref 156),de P "_law_leads" 408 (.ref 163),de P "_law_delayed" 432 (.ref 170),de P "_law_late" 438 (.ref 175),de P "_law_walks" 448 (.ref 182),de P "_law_back" 460 (.ref 189),de P "law" 466 (.ref 194)] 31) ::
 (nat_lit 23,dO (.type "dict") [de P "__module__" 196 (.str "grooveway.errors" 187),de P "__firstlineno__" 200 (.int 2 199),de P "__static_attributes__" 201 (.ref 22),de P "__weakref__" 203 (.ref 25),de P "__doc__" 204 .none] 3) ::
 (nat_lit 24,⟨(.type "type"),none,.cls ⟨"GrooveError",[(.type "ValueError")],[(.ref 24),(.type "ValueError"),(.type "Exception"),(.type "BaseException"),(.type "object")],23, "GrooveError",true,[],[(.ref 37),(.ref 49)],false,none,false⟩,#[some (.ref 15),none,some (.str "GrooveError" 189),some (.str "GrooveError" 197),some (.builtin "ValueError.__new__"),some (.bool true)]⟩) ::
 (nat_lit 25,⟨(.type "getset_descriptor"),none,.fields #[(.str "__weakref__" 202),(.ref 24),(.builtin "ExceptionGroup.__weakref__"),.none],#[]⟩) ::
 (nat_lit 36,x3 P "grooveway.errors" 187 214 218 4 217 219 35 220 2) ::
 (nat_lit 37,k3 "BadSign" 37 24 36 28 207 215) ::
 (nat_lit 48,x3 P "grooveway.errors" 187 230 234 6 233 235 47 236 2) ::
 (nat_lit 49,k3 "Unread" 49 24 48 40 223 231) ::
 (nat_lit 55,c3 "written" "written" 241 9 2 3 52 53 .none .none 54 244 245) ::
 (nat_lit 56,f3 "written" "written" X6 "grooveway.writing" 239 55) ::
 (nat_lit 60,c3 "blocks_behind" "blocks_behind" 247 19 2 3 57 58 .none .none 59 250 251) ::
 (nat_lit 61,f3 "blocks_behind" "blocks_behind" X7 "grooveway.writing" 239 60) ::
 (nat_lit 65,c3 "signs_spelled" "signs_spelled" 253 27 3 3 62 63 .none .none 64 256 257) ::
 (nat_lit 66,f3 "signs_spelled" "signs_spelled" XW "grooveway.writing" 239 65) ::
 (nat_lit 72,c3 "read" "read" 259 42 2 3 67 68 (.ref 69) (.ref 70) 71 269 270) ::
 (nat_lit 73,f3 "read" "read" Vv "grooveway.writing" 239 72) ::
 (nat_lit 84,c3 "__init__" "Table.__init__" 286 58 6 3 81 82 .none .none 83 289 290) ::
 (nat_lit 85,f3 "__init__" "Table.__init__" X8 "grooveway.table" 272 84) ::
 (nat_lit 91,c3 "signs" "Table.signs" 292 65 1 3 86 87 (.ref 88) (.ref 89) 90 296 297) ::
 (nat_lit 92,f3 "signs" "Table.signs" Vt "grooveway.table" 272 91) ::
 (nat_lit 98,c3 "block_length" "Table.block_length" 299 68 1 3 93 94 (.ref 95) (.ref 96) 97 303 304) ::
 (nat_lit 99,f3 "block_length" "Table.block_length" Vu "grooveway.table" 272 98) ::
 (nat_lit 101,dO (.type "dict") [de P "__module__" 281 (.str "grooveway.table" 272),de P "__firstlineno__" 285 (.int 56 284),de P "__init__" 291 (.ref 85),de P "signs" 298 (.ref 92),de P "block_length" 305 (.ref 99),de P "__static_attributes__" 311 (.ref 100),de P "__dict__" 313 (.ref 103),de P "__weakref__" 315 (.ref 104),de P "__doc__" 316 .none] 4) ::
 (nat_lit 102,⟨(.type "type"),none,.cls ⟨"Table",[(.type "object")],[(.ref 102),(.type "object")],101, "Table",true,[],[],false,none,false⟩,#[none,none,some (.str "Table" 274),some (.str "Table" 282),some (.builtin "object.__new__"),some (.bool true)]⟩) ::
 (nat_lit 103,⟨(.type "getset_descriptor"),none,.fields #[(.str "__dict__" 312),(.ref 102),(.builtin "function.__dict__"),(.builtin "function.__dict__#set")],#[]⟩) ::
 (nat_lit 104,⟨(.type "getset_descriptor"),none,.fields #[(.str "__weakref__" 314),(.ref 102),(.builtin "ExceptionGroup.__weakref__"),.none],#[]⟩) ::
 (nat_lit 112,c3 "_law_cell_at" "_law_cell_at" 321 71 2 3 107 108 (.ref 109) (.ref 110) 111 326 327) ::
 (nat_lit 113,f3 "_law_cell_at" "_law_cell_at" Vw "law_grooveway_k44_whole_read_back" 319 112) ::
 (nat_lit 117,c3 "_law_folded" "_law_folded" 329 75 3 3 114 115 .none .none 116 332 333) ::
 (nat_lit 118,f3 "_law_folded" "_law_folded" X9 "law_grooveway_k44_whole_read_back" 319 117) ::
 (nat_lit 122,c3 "_law_marks" "_law_marks" 335 81 2 3 119 120 .none .none 121 338 339) ::
 (nat_lit 123,f3 "_law_marks" "_law_marks" Va "law_grooveway_k44_whole_read_back" 319 122) ::
 (nat_lit 129,c3 "_law_last_ways" "_law_last_ways" 341 84 2 3 124 125 (.ref 126) (.ref 127) 128 350 351) ::
 (nat_lit 130,f3 "_law_last_ways" "_law_last_ways" Vx "law_grooveway_k44_whole_read_back" 319 129) ::
 (nat_lit 136,c3 "_law_gap_ways" "_law_gap_ways" 353 95 2 3 131 132 (.ref 133) (.ref 134) 135 361 362) ::
 (nat_lit 137,f3 "_law_gap_ways" "_law_gap_ways" Vy "law_grooveway_k44_whole_read_back" 319 136) ::
 (nat_lit 143,c3 "_law_ground" "_law_ground" 364 105 2 3 138 139 (.ref 140) (.ref 141) 142 371 372) ::
 (nat_lit 144,f3 "_law_ground" "_law_ground" Vz "law_grooveway_k44_whole_read_back" 319 143) ::
 (nat_lit 150,c3 "_law_blocks" "_law_blocks" 374 111 4 3 145 146 (.ref 147) (.ref 148) 149 387 388) ::
 (nat_lit 151,f3 "_law_blocks" "_law_blocks" VB "law_grooveway_k44_whole_read_back" 319 150) ::
 (nat_lit 155,c3 "_law_choices" "_law_choices" 390 121 3 3 152 153 .none .none 154 393 394) ::
 (nat_lit 156,f3 "_law_choices" "_law_choices" XX "law_grooveway_k44_whole_read_back" 319 155) ::
 (nat_lit 162,c3 "_law_leads" "_law_leads" 396 134 2 3 157 158 (.ref 159) (.ref 160) 161 406 407) ::
 (nat_lit 163,f3 "_law_leads" "_law_leads" VC "law_grooveway_k44_whole_read_back" 319 162) ::
 (nat_lit 169,c3 "_law_delayed" "_law_delayed" 409 146 5 3 164 165 (.ref 166) (.ref 167) 168 430 431) ::
 (nat_lit 170,f3 "_law_delayed" "_law_delayed" VD "law_grooveway_k44_whole_read_back" 319 169) ::
 (nat_lit 174,c3 "_law_late" "_law_late" 433 167 2 3 171 172 .none .none 173 436 437) ::
 (nat_lit 175,f3 "_law_late" "_law_late" Vb "law_grooveway_k44_whole_read_back" 319 174) ::
 (nat_lit 181,c3 "_law_walks" "_law_walks" 439 183 2 3 176 177 (.ref 178) (.ref 179) 180 446 447) ::
 (nat_lit 182,f3 "_law_walks" "_law_walks" VH "law_grooveway_k44_whole_read_back" 319 181) ::
 (nat_lit 188,c3 "_law_back" "_law_back" 449 190 3 3 183 184 (.ref 185) (.ref 186) 187 458 459) ::
 (nat_lit 189,f3 "_law_back" "_law_back" VL "law_grooveway_k44_whole_read_back" 319 188) ::
 (nat_lit 193,c3 "law" "law" 461 199 1 3 190 191 .none .none 192 464 465) ::
 (nat_lit 194,f3 "law" "law" Xp "law_grooveway_k44_whole_read_back" 319 193)::[]
set_option maxHeartbeats 0 in
theorem Zjt:met PySem.Challenge.pw_grooveway_k44_whole_read_back=true:=by k_qdec
set_option maxHeartbeats 0 in
theorem Zju:met kP=true:=by k_qdec
set_option maxHeartbeats 0 in
theorem left:LeftO PySem.Challenge.pw_grooveway_k44_whole_read_back (view PySem.Challenge.pw_grooveway_k44_whole_read_back [1,2,3,5,6,7,8,10,12,13,14,15,16,17,18,19,20,21,22,23,24,25]) [] (λs=>xlAt (view PySem.Challenge.pw_grooveway_k44_whole_read_back [1,2,3,5,6,7,8,10,12,13,14,15,16,17,18,19,20,21,22,23,24,25]) [] s&&recOk PySem.Challenge.rw_grooveway_k44_whole_read_back.row.toRowW.records s) (λs=>([2,3,23,24,25,36,37,48,49,55,56,60,61,65,66,72,73,84,85,91,92,98,99,101,102,103,104,112,113,117,118,122,123,129,130,136,137,143,144,150,151,155,156,162,163,169,170,174,175,181,182,188,189,193,194]:List Addr).map s.heap.get?) (λw=>(kP w.params).map λp=>some p.2) 3104:=
 HT.left_of rfl rfl (λ_=>rfl) λw=>by
  have _:=Zjt;have _:=Zju;rewrite [PySem.W.Fast.te4566174650032760547,PySem.W.Fast.te16488168269806145795,PySem.W.Fast.te5923862056798008813,PySem.W.Fast.te4187177175401517315,PySem.W.Fast.te6613529449190102663,PySem.W.Fast.te10156331382660048174,PySem.W.Fast.te11892475500146522536,PySem.W.Fast.te14364793385576792824]
  kernel_rfl
theorem kP_as:∀P,([2,3,23,24,25,36,37,48,49,55,56,60,61,65,66,72,73,84,85,91,92,98,99,101,102,103,104,112,113,117,118,122,123,129,130,136,137,143,144,150,151,155,156,162,163,169,170,174,175,181,182,188,189,193,194]:List Addr)=(kP P).map (·.1):=λ_=>by kernel_rfl
end K44
namespace K44
open PySem PySem.Spec PyProof.Rows L2 DL
theorem nd0:List.Nodup (["sign", "table"]:List Str):=by decide +kernel
theorem nd1:List.Nodup (["table", "signs", "row", "place", "sign", "way"]:List Str):=by decide +kernel
theorem nd2:List.Nodup (["table", "row", "length", "blocks"]:List Str):=by decide +kernel
theorem nd3:List.Nodup (["place", "row", "length"]:List Str):=by decide +kernel
theorem nd4:List.Nodup (["table", "places", "blocks", "ends", "place", "sign", "way", "block", "further", "firsts"]:List Str):=by decide +kernel
theorem nd5:List.Nodup (["sign", "place"]:List Str):=by decide +kernel
theorem nd6:List.Nodup (["sign", "firsts"]:List Str):=by decide +kernel
theorem nd7:List.Nodup (["table", "row", "blocks", "place", "signs", "number", "spelled"]:List Str):=by decide +kernel
theorem nd8:List.Nodup (["own"]:List Str):=by decide +kernel
theorem nd9:List.Nodup (["way"]:List Str):=by decide +kernel
theorem ZiO:List.Nodup (["script", "behind", "many", "found", "k", "at"]:List Str):=by decide +kernel
theorem ZkV:List.Nodup (["k"]:List Str):=by decide +kernel
theorem ZkW:List.Nodup (["cell", "many", "some"]:List Str):=by decide +kernel
theorem ZkX:List.Nodup (["k", "some", "cell"]:List Str):=by decide +kernel
theorem Jq:List.Nodup (["cell", "many", "ways", "room", "row", "k"]:List Str):=by decide +kernel
theorem ZiP:List.Nodup (["fewest", "most", "ways", "room", "row"]:List Str):=by decide +kernel
theorem ZkE:List.Nodup (["cell", "other", "many", "most"]:List Str):=by decide +kernel
theorem Up:List.Nodup (["marks", "ways", "room", "q", "blocks", "step", "longer", "block", "here", "k"]:List Str):=by decide +kernel
theorem Uq:List.Nodup (["ground", "base", "cell", "best", "step", "found", "room", "blocks", "fewest"]:List Str):=by decide +kernel
theorem ZkY:List.Nodup (["pair", "base"]:List Str):=by decide +kernel
theorem ZkZ:List.Nodup (["blocks"]:List Str):=by decide +kernel
theorem UP:List.Nodup (["marks", "ways", "rows", "ahead", "at", "k", "there"]:List Str):=by decide +kernel
theorem Y2:List.Nodup (["base", "choices", "n", "depth", "cells", "spread", "k", "homes", "ways", "room", "kept", "row", "sign", "new", "picked", "later", "block", "there"]:List Str):=by decide +kernel
theorem XY:List.Nodup (["script", "cells", "ground", "base", "choices", "n", "depth", "homes", "ways"]:List Str):=by decide +kernel
theorem Zk0:List.Nodup (["row"]:List Str):=by decide +kernel
theorem ZiQ:List.Nodup (["ground", "row", "room", "sign"]:List Str):=by decide +kernel
theorem ZiR:List.Nodup (["ground", "table", "signs", "row", "found", "sign"]:List Str):=by decide +kernel
theorem Vc:List.Nodup (["script", "cells", "ground", "homes", "ways", "late", "first", "ahead", "table", "signs", "cell"]:List Str):=by decide +kernel
theorem Zk1:List.Nodup (["cell", "ways"]:List Str):=by decide +kernel
section
variable{P:Program}{w:World}{K:PySem.W.Frag}{mg:Str->Option Value}{base:Heap}{t:Adr}
theorem ZhD(T:Txt K mg t):FnOk P w K mg base CX0 1 t.a_QI t.d_QI ["self"] (spD ⟨t.c,K⟩ 1 ZiM):=by
 refine YB (φ:=f_QI) T.f_QI Zi8 (by conv=>lhs;whnf) (by conv=>lhs;whnf) (λcdv A outer s H E hr => ?_) rfl rfl;refine⟨_,(Zu (Z1 (ZO (Z6 (K:=K)) (by rfl) T.n_len boot_len (Ze (ZC (ZD (K:=K)) (YM (K:=K) (pv 0)) Zn (λ_ _=>rfl)) Zj)))),[],?_⟩;unfold f_QI;exact(Z4 (ZV Z7 (Zf (Zi ZE (YQ T.fl_ways (Zc 0 (by rfl))) (Zl (d:=(.int 0)) (by rfl) (by rfl))) Zm)))
theorem Zjv(T:Txt K mg t):FnOk P w K mg base CX0 2 t.a_QS t.d_QS ["table", "signs"] (spD ⟨t.c,K⟩ 2 Qv):=by
 have G_QI:=(ZhD (P:=P) (w:=w) (base:=base) T).mono (k:=1) (by decide);refine YB (φ:=f_QS) T.f_QS Zi9 (by conv=>lhs;whnf) (by conv=>lhs;whnf) (λcdv A outer s H E hr => ?_) rfl rfl;refine⟨_,(Zq (Z9 (Uv (V3 (ZO (Zi0 (K:=K)) (by rfl) T.n_all boot_all (Ze (Vj (by rfl) (CompSc.mk' (tn:=["sign"]) (cn:=["table"]) (js:=[0]) (osc:=defScope X6) (oN:=["table", "signs", "row", "place", "sign", "way"]) (by rfl) (by rfl) (by rfl) (by decide +kernel)) (YL (K:=K) (pv 1)) (λC s₂ H₂ fp=>ZI (i:=0) nd0) (λC s₂ H₂ fp=>X1) (λC s₂ H₂ fp=>(Zek ZiV Ux Zn (pv 0) (Zak (cA:=⟨t.c,K⟩) (tab:=V1) (m:="signs") ⟨⟨t.a_QI,t.d_QI,["self"],T.cl_Table,T.me_Table_signs,G_QI,T.b_QI⟩,trivial⟩ hr (pv 1))))) Zj)))) (Zu UW) Yg)
 (Zq (Zw (i:=2) nd1 (by rfl) (by first|exact Or.inl rfl|exact Or.inr rfl) (Yv (Ze (YM (K:=K) (pv 0)) Zj)))
 (Zq (Zw (i:=3) nd1 (by rfl) (by first|exact Or.inl rfl|exact Or.inr rfl) (YM (K:=K) (pv 0)))
 (Zq ((Yh PassesOwn.never (by rfl) (YL (K:=K) (Zt (Z8 (K:=K)) (Xk (Zay (K:=K)) (by rfl) T.n_list boot_list (Ze (pv 1) Zj)) (Zt (VZ (K:=K)) (Yv (Ze Zn Zj)) (YM (K:=K) (pv 0))))) (ZI (i:=4) nd1) (Zq (Zw (i:=5) nd1 (by rfl) (by first|exact Or.inl rfl|exact Or.inr rfl) (ZC (ZD (K:=K)) (ZC (ZD (K:=K)) (YM (K:=K) (pv 0)) (pv 3) (λ_ _=>rfl)) (pv 4) (λ_ _=>rfl)))
 (Zq (Xs (YH (K:=K) PySem.F.plainAttrs_list PySem.F.slot_list_append PySem.F.type_list_append Xu (pv 2) (Ze (ZC (ZD (K:=K)) (pv 5) Zn (λ_ _=>rfl)) Zj)))
 (Zu (Zw (i:=3) nd1 (by rfl) (by first|exact Or.inl rfl|exact Or.inr rfl) (ZC (ZD (K:=K)) (pv 5) Zn (λ_ _=>rfl))))))))
 (Zu (Z1 (YH (K:=K) PySem.F.plainAttrs_str PySem.F.slot_str_join PySem.F.type_str_join (Zc4 (K:=K)) (U5 [] (by decide +kernel)) (Ze (pv 2) Zj)))))))),[],?_⟩
 unfold f_QS;exact(Zr (Yd (UE (XO (ZV Zh8 (Zf (VF.cl (XR (by rfl) (YO (Zc 1 (by rfl))) (ZR 0 (by rfl) (by rfl)) X3 (Zez (Zl (d:=(.int 0)) (by rfl) (by rfl)) (Zc 0 (by rfl)) (Zbf (Zc 1 (by rfl)) Zm)))) Zm)))) Qc Yk)
 (Zr (show VS _ _ [2] _ _ _ _ from(Xn 2 (Yw (Zf (YQ T.fl_lead (Zc 0 (by rfl))) Zm)) (by rfl) (by rfl) (by rfl) (by rfl)))
 (Zr (show VS _ _ [2] _ _ _ _ from(ZK 3 (YQ T.fl_first (Zc 0 (by rfl))) (by rfl) (by rfl) (by rfl) (by rfl)))
 (Zr (Yn (YO (VF.cl (Zfv (VF.cl (ZbM (Or.inl rfl) (Zf (Zc 1 (by rfl)) Zm))) (VF.cl (Zia (VF.cl (Yw (Zf (Zl (d:=(.int 0)) (by rfl) (by rfl)) Zm))) (YQ T.fl_ahead (Zc 0 (by rfl)))))))) (ZR 4 (by rfl) (by rfl)) (Zr (show VS _ _ [2] _ _ _ _ from(ZK 5 (Zi ZE (Zi ZE (YQ T.fl_ways (Zc 0 (by rfl))) (Zc 3 (by rfl))) (Zc 4 (by rfl))) (by rfl) (by rfl) (by rfl) (by rfl)))
 (Zr (Xy 2 (by rfl) (Zi ZE (Zc 5 (by rfl)) (Zl (d:=(.int 0)) (by rfl) (by rfl))))
 (show VS _ _ [2] _ _ _ _ from(ZK 3 (Zi ZE (Zc 5 (by rfl)) (Zl (d:=(.int 1)) (by rfl) (by rfl))) (by rfl) (by rfl) (by rfl) (by rfl))))))
 (VS.frz (ow1:=[]) 2 (Z4 (Q2 Zc6 (Zl (d:=(.str [])) (by rfl) (by rfl)) (Zf (Zc 2 (by rfl)) Zm))) (by rfl) (by rfl) (by rfl) (by rfl))))))
theorem Zjw(T:Txt K mg t):FnOk P w K mg base CX0 1 t.a_QA t.d_QA ["self"] (spD ⟨t.c,K⟩ 1 ZiN):=by
 refine YB (φ:=f_QA) T.f_QA Zja (by conv=>lhs;whnf) (by conv=>lhs;whnf) (λcdv A outer s H E hr => ?_) rfl rfl;refine⟨_,(Zu (Z1 (ZO (Z6 (K:=K)) (by rfl) T.n_len boot_len (Ze (ZC (ZD (K:=K)) (ZC (ZD (K:=K)) (ZC (ZD (K:=K)) (YM (K:=K) (pv 0)) Zn (λ_ _=>rfl)) Zn (λ_ _=>rfl)) Zn (λ_ _=>rfl)) Zj)))),[],?_⟩;unfold f_QA;exact(Z4 (ZV Z7 (Zf (Zi ZE (Zi ZE (Zi ZE (YQ T.fl_ways (Zc 0 (by rfl))) (Zl (d:=(.int 0)) (by rfl) (by rfl))) (Zl (d:=(.int 0)) (by rfl) (by rfl))) (Zl (d:=(.int 0)) (by rfl) (by rfl))) Zm)))
theorem Zjx(T:Txt K mg t):FnOk P w K mg base CX0 2 t.a_QC t.d_QC ["table", "row"] (spD ⟨t.c,K⟩ 2 Qx):=by
 have G_QA:=(Zjw (P:=P) (w:=w) (base:=base) T).mono (k:=1) (by decide);refine YB (φ:=f_QC) T.f_QC Zjb (by conv=>lhs;whnf) (by conv=>lhs;whnf) (λcdv A outer s H E hr => ?_) rfl rfl;refine⟨_,(Zq (Zw (i:=2) nd2 (by rfl) (by first|exact Or.inl rfl|exact Or.inr rfl) (Zak (cA:=⟨t.c,K⟩) (tab:=Qw) (m:="block_length") ⟨⟨t.a_QA,t.d_QA,["self"],T.cl_Table,T.me_Table_block_length,G_QA,T.b_QA⟩,trivial⟩ hr (pv 0)))
 (Zq (Z9 (PW.pt (UV (Yi Ux (ZO (Z6 (K:=K)) (by rfl) T.n_len boot_len (Ze (pv 1) Zj)) (ZO (Z6 (K:=K)) (by rfl) T.n_len boot_len (Ze (YM (K:=K) (pv 0)) Zj)) (Yp _)) (QI (Yi (Zfm (cA:=⟨t.c,K⟩) (hr.units)) (Zt Yo (Zt JE (ZO (Z6 (K:=K)) (by rfl) T.n_len boot_len (Ze (pv 1) Zj)) (ZO (Z6 (K:=K)) (by rfl) T.n_len boot_len (Ze (YM (K:=K) (pv 0)) Zj))) (pv 2)) Zn (Yp _))))) (Zu UW) Yg)
 (Zq (Zbg (i:=3) nd2 (by rfl) (by rfl) (by rfl) (CompSc.mk' (tn:=["place"]) (cn:=["row", "length"]) (js:=[1,2]) (osc:=defScope X7) (oN:=["table", "row", "length", "blocks"]) (by rfl) (by rfl) (by rfl) (by decide +kernel)) (ZdR (by rfl) T.n_range (Ze (ZO (Z6 (K:=K)) (by rfl) T.n_len boot_len (Ze (YM (K:=K) (pv 0)) Zj)) (Ze (ZO (Z6 (K:=K)) (by rfl) T.n_len boot_len (Ze (pv 1) Zj)) (Ze (pv 2) Zj)))) (λC s₂ H₂ fp=>ZI (i:=0) nd3) (λC s₂ H₂ fp=>X1) (λC s₂ H₂ fp=>(U2 (U6 (K:=K)) (pv 1) (VP (pv 0)) (VP (Zt (Z8 (K:=K)) (pv 0) (pv 2))))))
 (Zq (Z9 (Yi Ux (ZO (Z6 (K:=K)) (by rfl) T.n_len boot_len (Ze (pv 3) Zj)) (YM (K:=K) (pv 0)) (Yp _)) (Zu UW) Yg)
 (Zu (Z1 (pv 3))))))),[],?_⟩
 unfold f_QC;exact(Zr (show VS _ _ [] _ _ _ _ from(ZK 2 (Zbf (Zc 0 (by rfl)) Zm) (by rfl) (by rfl) (by rfl) (by rfl)))
 (Zr (Yd (U9 (Yj (Zi Vk (ZV Z7 (Zf (Zc 1 (by rfl)) Zm)) (ZV Z7 (Zf (YQ T.fl_lead (Zc 0 (by rfl))) Zm)))) (Yj (Zi Zho (Zi Ys (Zi Zcy (ZV Z7 (Zf (Zc 1 (by rfl)) Zm)) (ZV Z7 (Zf (YQ T.fl_lead (Zc 0 (by rfl))) Zm))) (Zc 2 (by rfl))) (Zl (d:=(.int 0)) (by rfl) (by rfl))))) Qc Yk)
 (Zr (show VS _ _ [] _ _ _ _ from(ZK 3 (VF.cl (XR (by rfl) (Zgd (Zf (ZV Z7 (Zf (YQ T.fl_lead (Zc 0 (by rfl))) Zm)) (Zf (ZV Z7 (Zf (Zc 1 (by rfl)) Zm)) (Zf (Zc 2 (by rfl)) Zm))) ZkS) (ZR 0 (by rfl) (by rfl)) X3 (Qf (Or.inl rfl) (Zc 1 (by rfl)) (VW (Zc 0 (by rfl))) (VW (Zi Yl (Zc 0 (by rfl)) (Zc 2 (by rfl))))))) (by rfl) (by rfl) (by rfl) (by rfl)))
 (Zr (Yd (Yj (Zi Vk (ZV Z7 (Zf (Zc 3 (by rfl)) Zm)) (YQ T.fl_ahead (Zc 0 (by rfl))))) Qc Yk)
 (Z4 (Zc 3 (by rfl)))))))
theorem Zjy(T:Txt K mg t):FnOk P w K mg base CX0 2 t.a_QE t.d_QE ["table", "places", "blocks"] (spD ⟨t.c,K⟩ 3 Je):=by
 have G_QI:=(ZhD (P:=P) (w:=w) (base:=base) T).mono (k:=1) (by decide);refine YB (φ:=f_QE) T.f_QE Zjc (by conv=>lhs;whnf) (by conv=>lhs;whnf) (λcdv A outer s H E hr => ?_) rfl rfl;refine⟨_,(Zq (Zw (i:=3) nd4 (by rfl) (by first|exact Or.inl rfl|exact Or.inr rfl) ZbH)
 (Zq ((Yh PassesOwn.never (by rfl) (YL (K:=K) (pv 1)) (ZI (i:=4) nd4) (Zu ((Yh PassesOwn.never (by rfl) (ZeR (K:=K) (by rfl) T.n_enumerate (ZC (ZD (K:=K)) (YM (K:=K) (pv 0)) (pv 4) (λ_ _=>rfl))) (V7 (K:=K) (n:=2) (YV (ZI (i:=5) nd4) (YV (ZI (i:=6) nd4) V4))) (Zu (Z9 (Yi (XM (cA:=⟨t.c,K⟩) (hr.units)) (ZC (ZD (K:=K)) (pv 6) Zn (λ_ _=>rfl)) (ZC (ZD (K:=K)) (pv 2) Zn (λ_ _=>rfl)) (Yp _)) (Zu (J9 (UM hr.units) (pv 3) (Vg (Ze (pv 5) (Ze (ZC (ZD (K:=K)) (pv 6) Zn (λ_ _=>rfl)) Zj))) VM (by rfl))) Yg)))))))
 (Zq ((Yh PassesOwn.never (by rfl) (YL (K:=K) (U2 (U6 (K:=K)) (pv 2) (VP Zn) ZcT)) (ZI (i:=7) nd4) (Zq (Zw (i:=8) nd4 (by rfl) (by first|exact Or.inl rfl|exact Or.inr rfl) ZbH)
 (Zq ((Zgt PassesOwn.never (by rfl) (pv 3) (V7 (K:=K) (n:=2) (YV (ZI (i:=5) nd4) (YV (ZI (i:=4) nd4) V4))) (Zu ((Yh PassesOwn.never (by rfl) (YL (K:=K) (ZC (ZD (K:=K)) (YM (K:=K) (pv 0)) (pv 4) (λ_ _=>rfl))) (ZI (i:=6) nd4) (Zu (Z9 (Yi (XM (cA:=⟨t.c,K⟩) (hr.units)) (ZC (ZD (K:=K)) (pv 6) Zn (λ_ _=>rfl)) (pv 7) (Yp _)) (Zu (J9 (UM hr.units) (pv 8) (Vg (Ze (pv 5) (Ze (ZC (ZD (K:=K)) (pv 6) Zn (λ_ _=>rfl)) Zj))) VM (by rfl))) Yg)))))))
 (Zu (Zw (i:=3) nd4 (by rfl) (by first|exact Or.inl rfl|exact Or.inr rfl) (pv 8)))))))
 (Zq (Zw (i:=9) nd4 (by rfl) (by first|exact Or.inl rfl|exact Or.inr rfl) (Vj (by rfl) (CompSc.mk' (tn:=["sign", "place"]) (cn:=[]) (js:=[]) (osc:=defScope XW) (oN:=["table", "places", "blocks", "ends", "place", "sign", "way", "block", "further", "firsts"]) (by rfl) (by rfl) (by rfl) (by decide +kernel)) (Zdd (NF:=λ_=>True) (pv 3) (λ_ _=>trivial)) (λC s₂ H₂ fp=>V7 (K:=K) (n:=2) (YV (ZI (i:=0) nd5) (YV (ZI (i:=1) nd5) V4))) (λC s₂ H₂ fp=>X1) (λC s₂ H₂ fp=>(pv 0))))
 (Zu (Z1 (Vj (by rfl) (CompSc.mk' (tn:=["sign"]) (cn:=["firsts"]) (js:=[9]) (osc:=defScope XW) (oN:=["table", "places", "blocks", "ends", "place", "sign", "way", "block", "further", "firsts"]) (by rfl) (by rfl) (by rfl) (by decide +kernel)) (Y8 (by rfl) T.n_range (Ze (Zak (cA:=⟨t.c,K⟩) (tab:=V1) (m:="signs") ⟨⟨t.a_QI,t.d_QI,["self"],T.cl_Table,T.me_Table_signs,G_QI,T.b_QI⟩,trivial⟩ hr (pv 0)) Zj)) (λC s₂ H₂ fp=>ZI (i:=0) nd6) (λC s₂ H₂ fp=>(ZcV (Yi (Zhh (K:=K)) (pv 0) (pv 1) (by rfl)))) (λC s₂ H₂ fp=>(pv 0))))))))),[],?_⟩
 unfold f_QE;exact(Zr (show VS _ _ [3] _ _ _ _ from ZbT 3 ZbX (by rfl) (by rfl) (by rfl) (by rfl))
 (Zr (Yn (YO (Zc 1 (by rfl))) (ZR 4 (by rfl) (by rfl)) (Yn (ZeS (Zi ZE (YQ T.fl_ways (Zc 0 (by rfl))) (Zc 4 (by rfl)))) (Qe (YX 5 (by rfl) (by rfl) (YX 6 (by rfl) (by rfl) Ub))) (Yd (Yj (Zi XN (Zi ZE (Zc 6 (by rfl)) (Zl (d:=(.int 0)) (by rfl) (by rfl))) (Zi ZE (Zc 2 (by rfl)) (Zl (d:=(.int 0)) (by rfl) (by rfl))))) (ZbU 3 (by rfl) (Zl (d:=(.bl true)) (by rfl) (by rfl)) (Vl (Zf (Zc 5 (by rfl)) (Zf (Zi ZE (Zc 6 (by rfl)) (Zl (d:=(.int 1)) (by rfl) (by rfl))) Zm)))) Yk)))
 (Zr (Yn (YO (Qf (Or.inl rfl) (Zc 2 (by rfl)) (VW (Zl (d:=(.int 1)) (by rfl) (by rfl))) Zc3)) (ZR 7 (by rfl) (by rfl)) (Zr (show VS _ _ [3,8] _ _ _ _ from ZbT 8 ZbX (by rfl) (by rfl) (by rfl) (by rfl))
 (Zr (Zgw (ow1:=[8]) 3 (by rfl) (by rfl) (by rfl) (by rfl) (by rfl) (λ_=>(YX 5 (by rfl) (by rfl) (YX 4 (by rfl) (by rfl) Ub))) (λ_=>(Yn (YO (Zi ZE (YQ T.fl_ways (Zc 0 (by rfl))) (Zc 4 (by rfl)))) (ZR 6 (by rfl) (by rfl)) (Yd (Yj (Zi XN (Zi ZE (Zc 6 (by rfl)) (Zl (d:=(.int 0)) (by rfl) (by rfl))) (Zc 7 (by rfl)))) (ZbU 8 (by rfl) (Zl (d:=(.bl true)) (by rfl) (by rfl)) (Vl (Zf (Zc 5 (by rfl)) (Zf (Zi ZE (Zc 6 (by rfl)) (Zl (d:=(.int 1)) (by rfl) (by rfl))) Zm)))) Yk))))
 (VS.frz (ow1:=[8]) 3 (show VS _ _ [3] _ _ _ _ from Zgl 3 8 (by decide) (by rfl) (by rfl) (by rfl) (by rfl) (by rfl) (by rfl) (by rfl)) (by rfl) (by rfl) (by rfl) (by rfl)))))
 (Zr (show VS _ _ [] _ _ _ _ from ZeU 3 9 (by decide) (by rfl) (by rfl) (by rfl) (by rfl) (by rfl) (by rfl) (by rfl) (by rfl) (YX 0 (by rfl) (by rfl) (YX 1 (by rfl) (by rfl) Ub)) X3 (Zc 0 (by rfl)))
 (Z4 (VF.cl (XR (by rfl) (Xb (Zf (Zbf (Zc 0 (by rfl)) Zm) Zm) Y5) (ZR 0 (by rfl) (by rfl)) (Yj (Zi Zhq (Zc 0 (by rfl)) (Zc 1 (by rfl)))) (Zc 0 (by rfl)))))))))
theorem Zjz(T:Txt K mg t):FnOk P w K mg base CX0 3 t.a_QT t.d_QT ["table", "row"] (spD ⟨t.c,K⟩ 2 Qy):=by
 have G_QC:=(Zjx (P:=P) (w:=w) (base:=base) T).mono (k:=2) (by decide);have G_QE:=(Zjy (P:=P) (w:=w) (base:=base) T).mono (k:=2) (by decide);refine YB (φ:=f_QT) T.f_QT Zjd (by conv=>lhs;whnf) (by conv=>lhs;whnf) (λcdv A outer s H E hr => ?_) rfl rfl;refine⟨_,(Zq (Z9 (Uv (V3 (YH (K:=K) PySem.F.plainAttrs_str PySem.F.slot_str_startswith PySem.F.type_str_startswith ZaM (pv 1) (Ze (YM (K:=K) (pv 0)) Zj)))) (Zu UW) Yg)
 (Zq (Zw (i:=2) nd7 (by rfl) (by first|exact Or.inl rfl|exact Or.inr rfl) (Z2 (G_QC) hr (by rfl) T.g_QC T.k_QC T.b_QC .nil ZY (Ze (pv 0) (Ze (pv 1) Zj))))
 (Zq (Zw (i:=3) nd7 (by rfl) (by first|exact Or.inl rfl|exact Or.inr rfl) (YM (K:=K) (pv 0)))
 (Zq (Zw (i:=4) nd7 (by rfl) (by first|exact Or.inl rfl|exact Or.inr rfl) (Yv Zj))
 (Zq ((Yh PassesOwn.never (by rfl) (Y8 (by rfl) T.n_range (Ze (Zt JE (ZO (Z6 (K:=K)) (by rfl) T.n_len boot_len (Ze (pv 2) Zj)) (YM (K:=K) (pv 0))) Zj)) (ZI (i:=5) nd7) (Zq (Zw (i:=6) nd7 (by rfl) (by first|exact Or.inl rfl|exact Or.inr rfl) (Z2 (G_QE) hr (by rfl) T.g_QE T.k_QE T.b_QE .nil ZY (Ze (pv 0) (Ze (Yv (Ze (pv 3) Zj)) (Ze (U2 (U6 (K:=K)) (pv 2) (VP (pv 5)) (VP (Zt (Z8 (K:=K)) (Zt (Z8 (K:=K)) (pv 5) (YM (K:=K) (pv 0))) Zn))) Zj)))))
 (Zq (Z9 (Yi (XM (cA:=⟨t.c,K⟩) (hr.units)) (ZO (Z6 (K:=K)) (by rfl) T.n_len boot_len (Ze (pv 6) Zj)) Zn (Yp _)) (Zu UW) Yg)
 (Zq (Xs (YH (K:=K) PySem.F.plainAttrs_list PySem.F.slot_list_append PySem.F.type_list_append Xu (pv 4) (Ze (ZC (ZD (K:=K)) (pv 6) Zn (λ_ _=>rfl)) Zj)))
 (Zu (Zw (i:=3) nd7 (by rfl) (by first|exact Or.inl rfl|exact Or.inr rfl) (ZC (ZD (K:=K)) (ZC (ZD (K:=K)) (ZC (ZD (K:=K)) (YM (K:=K) (pv 0)) (pv 3) (λ_ _=>rfl)) (ZC (ZD (K:=K)) (pv 6) Zn (λ_ _=>rfl)) (λ_ _=>rfl)) Zn (λ_ _=>rfl)))))))))
 (Zu (Z1 (pv 4)))))))),[],?_⟩
 unfold f_QT;exact(Zr (Yd (UE (XO (Q2 ZdZ (Zc 1 (by rfl)) (Zf (YQ T.fl_lead (Zc 0 (by rfl))) Zm)))) Qc Yk)
 (Zr (show VS _ _ [] _ _ _ _ from(ZK 2 (Z5 [] (by rfl) (Zf (Zc 0 (by rfl)) (Zf (Zc 1 (by rfl)) Zm))) (by rfl) (by rfl) (by rfl) (by rfl)))
 (Zr (show VS _ _ [] _ _ _ _ from(ZK 3 (YQ T.fl_first (Zc 0 (by rfl))) (by rfl) (by rfl) (by rfl) (by rfl)))
 (Zr (show VS _ _ [4] _ _ _ _ from(Xn 4 (Yw Zm) (by rfl) (by rfl) (by rfl) (by rfl)))
 (Zr (Yn (Xb (Zf (Zi Zcy (ZV Z7 (Zf (Zc 2 (by rfl)) Zm)) (YQ T.fl_ahead (Zc 0 (by rfl)))) Zm) Y5) (ZR 5 (by rfl) (by rfl)) (Zr (show VS _ _ [4] _ _ _ _ from(ZK 6 (Z5 [] (by rfl) (Zf (Zc 0 (by rfl)) (Zf (VF.cl (Yw (Zf (Zc 3 (by rfl)) Zm))) (Zf (Qf (Or.inl rfl) (Zc 2 (by rfl)) (VW (Zc 5 (by rfl))) (VW (Zi Yl (Zi Yl (Zc 5 (by rfl)) (YQ T.fl_ahead (Zc 0 (by rfl)))) (Zl (d:=(.int 1)) (by rfl) (by rfl))))) Zm)))) (by rfl) (by rfl) (by rfl) (by rfl)))
 (Zr (Yd (Yj (Zi XN (ZV Z7 (Zf (Zc 6 (by rfl)) Zm)) (Zl (d:=(.int 0)) (by rfl) (by rfl)))) Qc Yk)
 (Zr (Xy 4 (by rfl) (Zi ZE (Zc 6 (by rfl)) (Zl (d:=(.int 0)) (by rfl) (by rfl))))
 (show VS _ _ [4] _ _ _ _ from(ZK 3 (Zi ZE (Zi ZE (Zi ZE (YQ T.fl_ways (Zc 0 (by rfl))) (Zc 3 (by rfl))) (Zi ZE (Zc 6 (by rfl)) (Zl (d:=(.int 0)) (by rfl) (by rfl)))) (Zl (d:=(.int 1)) (by rfl) (by rfl))) (by rfl) (by rfl) (by rfl) (by rfl)))))))
 (VS.frz (ow1:=[]) 4 (Z4 (Zc 4 (by rfl))) (by rfl) (by rfl) (by rfl) (by rfl)))))))
theorem ZjA(T:Txt K mg t):FnOk P w K mg base CX0 1 t.a_QN t.d_QN ["self", "lead", "first", "ahead", "homes", "ways"] (spI ⟨t.c,K⟩ 6 Jf):=by
 refine Zi5 (φ:=f_QN) T.f_QN Zje (by conv=>lhs;whnf) (by conv=>lhs;whnf) (λcdv A outer s H E self hr => ?_) rfl rfl;refine⟨_,(Zq (U0 (pv 0) (pv 1) (by rfl))
 (Zq (U0 (pv 0) (pv 2) (by rfl))
 (Zq (U0 (pv 0) (pv 3) (by rfl))
 (Zq (U0 (pv 0) (Xk (XJ (K:=K)) (by rfl) T.n_tuple boot_tuple (Ze (pv 4) Zj)) (by rfl))
 (Zu (U0 (pv 0) (Xk (XJ (K:=K)) (by rfl) T.n_tuple boot_tuple (Ze (Vj (by rfl) (CompSc.mk' (tn:=["own"]) (cn:=[]) (js:=[]) (osc:=defScope X8) (oN:=["self", "lead", "first", "ahead", "homes", "ways"]) (by rfl) (by rfl) (by rfl) (by decide +kernel)) (YL (K:=K) (pv 5)) (λC s₂ H₂ fp=>ZI (i:=0) nd8) (λC s₂ H₂ fp=>X1) (λC s₂ H₂ fp=>(Xk (XJ (K:=K)) (by rfl) T.n_tuple boot_tuple (Ze (Vj (by rfl) (CompSc.mk3 (tn:=["way"]) (by rfl) (by decide +kernel)) (YL (K:=K) (pv 0)) (λC s₂ H₂ fp=>ZI (i:=0) nd9) (λC s₂ H₂ fp=>X1) (λC s₂ H₂ fp=>(Xk (XJ (K:=K)) (by rfl) T.n_tuple boot_tuple (Ze (pv 0) Zj)))) Zj)))) Zj)) (by rfl))))))),?_⟩
 unfold f_QN;exact(Zr (Qg 0 (by rfl) T.fl_lead (Zc 1 (by rfl)))
 (Zr (Qg 0 (by rfl) T.fl_first (Zc 2 (by rfl)))
 (Zr (Qg 0 (by rfl) T.fl_ahead (Zc 3 (by rfl)))
 (Zr (Qg 0 (by rfl) T.fl_homes (XQ (Zf (Zc 4 (by rfl)) Zm)))
 (Qg 0 (by rfl) T.fl_ways (XQ (Zf (VF.cl (XR (by rfl) (YO (Zc 5 (by rfl))) (ZR 0 (by rfl) (by rfl)) X3 (XQ (Zf (VF.cl (XR (by rfl) (YO (Zc 0 (by rfl))) (ZR 0 (by rfl) (by rfl)) X3 (XQ (Zf (Zc 0 (by rfl)) Zm)))) Zm)))) Zm)))))))
theorem ZhE(T:Txt K mg t):FnOk P w K mg base CX0 1 t.a_QG t.d_QG ["script", "k"] (spD ⟨t.c,K⟩ 2 YD):=by
 refine YB (φ:=f_QG) T.f_QG Zjf (by conv=>lhs;whnf) (by conv=>lhs;whnf) (λcdv A outer s H E hr => ?_) rfl rfl;refine⟨_,(Zq (Z9 (Yi Ux (pv 1) (ZO (Z6 (K:=K)) (by rfl) T.n_len boot_len (Ze (pv 0) Zj)) (Yp _)) (Zu (Z1 (ZC (ZD (K:=K)) (pv 0) (pv 1) (λ_ _=>rfl)))) Yg)
 (Zu (Z1 Zn))),[],?_⟩
 unfold f_QG;exact(Zr (Yd (Yj (Zi Vk (Zc 1 (by rfl)) (ZV Z7 (Zf (Zc 0 (by rfl)) Zm)))) (Z4 (Zi ZE (Zc 0 (by rfl)) (Zc 1 (by rfl)))) Yk)
 (Z4 (Zl (d:=(.int 0)) (by rfl) (by rfl))))
theorem ZjB(T:Txt K mg t):FnOk P w K mg base CX0 1 t.a_QK t.d_QK ["script", "behind", "many"] (spD ⟨t.c,K⟩ 3 Qz):=by
 refine YB (φ:=f_QK) T.f_QK Zjg (by conv=>lhs;whnf) (by conv=>lhs;whnf) (λcdv A outer s H E hr => ?_) rfl rfl;refine⟨_,(Zq (Zbg (i:=3) ZiO (by rfl) (by rfl) (by rfl) (CompSc.mk' (tn:=["k"]) (cn:=[]) (js:=[]) (osc:=defScope X9) (oN:=["script", "behind", "many", "found", "k", "at"]) (by rfl) (by rfl) (by rfl) (by decide +kernel)) (Y8 (by rfl) T.n_range (Ze (pv 2) Zj)) (λC s₂ H₂ fp=>ZI (i:=0) ZkV) (λC s₂ H₂ fp=>X1) (λC s₂ H₂ fp=>(Zt (Z8 (K:=K)) (Zt (VZ (K:=K)) (pv 0) (pv 0)) (pv 0))))
 (Zq ((Yh PassesOwn.never (by rfl) (ZdD (by rfl) T.n_range (Ze (pv 1) (Ze (ZO (Z6 (K:=K)) (by rfl) T.n_len boot_len (Ze (pv 0) Zj)) Zj))) (ZI (i:=4) ZiO) (Zq (Zw (i:=5) ZiO (by rfl) (by first|exact Or.inl rfl|exact Or.inr rfl) (Zt Yo (Zt JE (pv 4) (pv 1)) (pv 2)))
 (Zu (Uw (Zt Yo (Zt (Z8 (K:=K)) (Zt (VZ (K:=K)) (ZC (ZD (K:=K)) (pv 3) (pv 5) (λ_ _=>rfl)) Zn) (ZC (ZD (K:=K)) (pv 0) (pv 4) (λ_ _=>rfl))) Zn) (JB (pv 3) (pv 5) JJ))))))
 (Zu (Z1 (pv 3))))),[],?_⟩
 unfold f_QK;exact(Zr (show VS _ _ [3] _ _ _ _ from(Xn 3 (XR (by rfl) (Xb (Zf (Zc 2 (by rfl)) Zm) Y5) (ZR 0 (by rfl) (by rfl)) X3 (Zi Yl (Zi Ue (Zc 0 (by rfl)) (Zc 0 (by rfl))) (Zc 0 (by rfl)))) (by rfl) (by rfl) (by rfl) (by rfl)))
 (Zr (Yn (Zgc (Zf (Zc 1 (by rfl)) (Zf (ZV Z7 (Zf (Zc 0 (by rfl)) Zm)) Zm)) ZkB) (ZR 4 (by rfl) (by rfl)) (Zr (show VS _ _ [3] _ _ _ _ from(ZK 5 (Zi Ys (Zi Zcy (Zc 4 (by rfl)) (Zc 1 (by rfl))) (Zc 2 (by rfl))) (by rfl) (by rfl) (by rfl) (by rfl)))
 (Zbh 3 (by rfl) (Zi Ys (Zi Yl (Zi Ue (Zi ZE (V8 3 (by rfl)) (Zc 5 (by rfl))) (Zl (d:=(.int 31)) (by rfl) (by rfl))) (Zi ZE (Zc 0 (by rfl)) (Zc 4 (by rfl)))) (Zl (d:=(.int 1000000000039)) (by rfl) (by rfl))) (Zc 5 (by rfl)))))
 (VS.frz (ow1:=[]) 3 (Z4 (Zc 3 (by rfl))) (by rfl) (by rfl) (by rfl) (by rfl))))
theorem ZjC(T:Txt K mg t):FnOk P w K mg base CX0 1 t.a_QO t.d_QO ["cell", "many"] (spD ⟨t.c,K⟩ 2 UO):=by
 refine YB (φ:=f_QO) T.f_QO Zjh (by conv=>lhs;whnf) (by conv=>lhs;whnf) (λcdv A outer s H E hr => ?_) rfl rfl;refine⟨_,(Zq (Zw (i:=2) ZkW (by rfl) (by first|exact Or.inl rfl|exact Or.inr rfl) (U5 [97,98,99,100,101,102,103,104,105,106,107,108,109,110,111,112,113,114,115,116,117,118,119,120,121,122,48,49,50,51,52,53,54,55,56,57] (by decide +kernel)))
 (Zu (Z1 (YH (K:=K) PySem.F.plainAttrs_str PySem.F.slot_str_join PySem.F.type_str_join (Zc4 (K:=K)) (U5 [] (by decide +kernel)) (Ze (Vj (by rfl) (CompSc.mk' (tn:=["k"]) (cn:=["some", "cell"]) (js:=[2,0]) (osc:=defScope Va) (oN:=["cell", "many", "some"]) (by rfl) (by rfl) (by rfl) (by decide +kernel)) (Y8 (by rfl) T.n_range (Ze (pv 1) Zj)) (λC s₂ H₂ fp=>ZI (i:=0) ZkX) (λC s₂ H₂ fp=>X1) (λC s₂ H₂ fp=>(ZC (ZD (K:=K)) (pv 1) (Zt Yo (Zt (Z8 (K:=K)) (pv 2) (Zt (VZ (K:=K)) Zn (pv 0))) (ZO (Z6 (K:=K)) (by rfl) T.n_len boot_len (Ze (pv 1) Zj))) (λ_ _=>rfl)))) Zj))))),[],?_⟩
 unfold f_QO;exact(Zr (show VS _ _ [] _ _ _ _ from(ZK 2 (Zl (d:=(.str [97,98,99,100,101,102,103,104,105,106,107,108,109,110,111,112,113,114,115,116,117,118,119,120,121,122,48,49,50,51,52,53,54,55,56,57])) (by rfl) (by rfl)) (by rfl) (by rfl) (by rfl) (by rfl)))
 (Z4 (Q2 Zc6 (Zl (d:=(.str [])) (by rfl) (by rfl)) (Zf (VF.cl (XR (by rfl) (Xb (Zf (Zc 1 (by rfl)) Zm) Y5) (ZR 0 (by rfl) (by rfl)) X3 (Zi ZE (Zc 1 (by rfl)) (Zi Ys (Zi Yl (Zc 2 (by rfl)) (Zi Ue (Zl (d:=(.int 5)) (by rfl) (by rfl)) (Zc 0 (by rfl)))) (ZV Z7 (Zf (Zc 1 (by rfl)) Zm)))))) Zm))))
theorem ZjD(T:Txt K mg t):FnOk P w K mg base CX0 1 t.a_QB t.d_QB ["cell", "many"] (spD ⟨t.c,K⟩ 2 Jg):=by
 refine YB (φ:=f_QB) T.f_QB Zji (by conv=>lhs;whnf) (by conv=>lhs;whnf) (λcdv A outer s H E hr => ?_) rfl rfl;refine⟨_,(Zq (Zw (i:=2) Jq (by rfl) (by first|exact Or.inl rfl|exact Or.inr rfl) (Yv Zj))
 (Zq ((Yh PassesOwn.never (by rfl) (Y8 (by rfl) T.n_range (Ze (pv 1) Zj)) (ZI (i:=3) Jq) (Zq (Zw (i:=4) Jq (by rfl) (by first|exact Or.inl rfl|exact Or.inr rfl) (Yv Zj))
 (Zq ((Yh PassesOwn.never (by rfl) (Y8 (by rfl) T.n_range (Ze (pv 1) Zj)) (ZI (i:=5) Jq) (Zu (Z9 (PW.pt (UV (Yi QK (Zt Yo (Zt Xd (pv 0) (Zt (Z8 (K:=K)) (Zt (Z8 (K:=K)) (Zt (VZ (K:=K)) Zn (pv 3)) (pv 5)) Zn)) Zn) Zn (Yp _)) (QI (Yi (XM (cA:=⟨t.c,K⟩) (hr.units)) (pv 5) (Zt Yo (Zt (Z8 (K:=K)) (pv 3) Zn) (pv 1)) (Yp _))))) (Zu (Xs (YH (K:=K) PySem.F.plainAttrs_list PySem.F.slot_list_append PySem.F.type_list_append Xu (pv 4) (Ze (pv 5) Zj)))) (Zu (Xs (YH (K:=K) PySem.F.plainAttrs_list PySem.F.slot_list_append PySem.F.type_list_append Xu (pv 4) (Ze Jz Zj))))))))
 (Zu (Xs (YH (K:=K) PySem.F.plainAttrs_list PySem.F.slot_list_append PySem.F.type_list_append Xu (pv 2) (Ze (Xk (XJ (K:=K)) (by rfl) T.n_tuple boot_tuple (Ze (pv 4) Zj)) Zj))))))))
 (Zu (Z1 (Xk (XJ (K:=K)) (by rfl) T.n_tuple boot_tuple (Ze (pv 2) Zj)))))),[],?_⟩
 unfold f_QB;exact(Zr (show VS _ _ [2] _ _ _ _ from(Xn 2 (Yw Zm) (by rfl) (by rfl) (by rfl) (by rfl)))
 (Zr (Yn (Xb (Zf (Zc 1 (by rfl)) Zm) Y5) (ZR 3 (by rfl) (by rfl)) (Zr (show VS _ _ [2,4] _ _ _ _ from(Xn 4 (Yw Zm) (by rfl) (by rfl) (by rfl) (by rfl)))
 (Zr (Yn (Xb (Zf (Zc 1 (by rfl)) Zm) Y5) (ZR 5 (by rfl) (by rfl)) (Yd (U9 (Yj (Zi Vk (Zi Ys (Zi Xe (Zc 0 (by rfl)) (Zi Yl (Zi Yl (Zi Ue (Zl (d:=(.int 3)) (by rfl) (by rfl)) (Zc 3 (by rfl))) (Zc 5 (by rfl))) (Zl (d:=(.int 1)) (by rfl) (by rfl)))) (Zl (d:=(.int 3)) (by rfl) (by rfl))) (Zl (d:=(.int 0)) (by rfl) (by rfl)))) (Yj (Zi XN (Zc 5 (by rfl)) (Zi Ys (Zi Yl (Zc 3 (by rfl)) (Zl (d:=(.int 1)) (by rfl) (by rfl))) (Zc 1 (by rfl)))))) (Xy 4 (by rfl) (Zc 5 (by rfl))) (Xy 4 (by rfl) (Zl (d:=.non) (by rfl) (by rfl)))))
 (VS.frz (ow1:=[2]) 4 (Xy 2 (by rfl) (XQ (Zf (Zc 4 (by rfl)) Zm))) (by rfl) (by rfl) (by rfl) (by rfl)))))
 (VS.frz (ow1:=[]) 2 (Z4 (XQ (Zf (Zc 2 (by rfl)) Zm))) (by rfl) (by rfl) (by rfl) (by rfl))))
theorem ZjE(T:Txt K mg t):FnOk P w K mg base CX0 1 t.a_QD t.d_QD ["fewest", "most"] (spD ⟨t.c,K⟩ 2 Jh):=by
 refine YB (φ:=f_QD) T.f_QD Zjj (by conv=>lhs;whnf) (by conv=>lhs;whnf) (λcdv A outer s H E hr => ?_) rfl rfl;refine⟨_,(Zq (Zw (i:=2) ZiP (by rfl) (by first|exact Or.inl rfl|exact Or.inr rfl) (Yv Zj))
 (Zq ((Yh PassesOwn.never (by rfl) (Y8 (by rfl) T.n_range (Ze (Zt (Z8 (K:=K)) (pv 1) Zn) Zj)) (ZI (i:=3) ZiP) (Zq (Zw (i:=4) ZiP (by rfl) (by first|exact Or.inl rfl|exact Or.inr rfl) (Yv (Ze (Zt (Z8 (K:=K)) (pv 3) Zn) (Ze Zn Zj))))
 (Zq (Z9 (Yi (XM (cA:=⟨t.c,K⟩) (hr.units)) (pv 3) (pv 1) (Yp _)) (Zu (Uw Jz (JB (pv 4) Zn JJ))) Yg)
 (Zq (Z9 (Yi Ux (pv 3) (pv 0) (Yp _)) (Zu (Uw Jz (JB (pv 4) Zn JJ))) Yg)
 (Zu (Xs (YH (K:=K) PySem.F.plainAttrs_list PySem.F.slot_list_append PySem.F.type_list_append Xu (pv 2) (Ze (Xk (XJ (K:=K)) (by rfl) T.n_tuple boot_tuple (Ze (pv 4) Zj)) Zj)))))))))
 (Zu (Z1 (Xk (XJ (K:=K)) (by rfl) T.n_tuple boot_tuple (Ze (pv 2) Zj)))))),[],?_⟩
 unfold f_QD;exact(Zr (show VS _ _ [2] _ _ _ _ from(Xn 2 (Yw Zm) (by rfl) (by rfl) (by rfl) (by rfl)))
 (Zr (Yn (Xb (Zf (Zi Yl (Zc 1 (by rfl)) (Zl (d:=(.int 1)) (by rfl) (by rfl))) Zm) Y5) (ZR 3 (by rfl) (by rfl)) (Zr (show VS _ _ [2,4] _ _ _ _ from(Xn 4 (Yw (Zf (Zi Yl (Zc 3 (by rfl)) (Zl (d:=(.int 1)) (by rfl) (by rfl))) (Zf (Zl (d:=(.int 0)) (by rfl) (by rfl)) Zm))) (by rfl) (by rfl) (by rfl) (by rfl)))
 (Zr (Yd (Yj (Zi XN (Zc 3 (by rfl)) (Zc 1 (by rfl)))) (Zbh 4 (by rfl) (Zl (d:=.non) (by rfl) (by rfl)) (Zl (d:=(.int 0)) (by rfl) (by rfl))) Yk)
 (Zr (Yd (Yj (Zi Vk (Zc 3 (by rfl)) (Zc 0 (by rfl)))) (Zbh 4 (by rfl) (Zl (d:=.non) (by rfl) (by rfl)) (Zl (d:=(.int 1)) (by rfl) (by rfl))) Yk)
 (VS.frz (ow1:=[2]) 4 (Xy 2 (by rfl) (XQ (Zf (Zc 4 (by rfl)) Zm))) (by rfl) (by rfl) (by rfl) (by rfl))))))
 (VS.frz (ow1:=[]) 2 (Z4 (XQ (Zf (Zc 2 (by rfl)) Zm))) (by rfl) (by rfl) (by rfl) (by rfl))))
theorem ZjF(T:Txt K mg t):FnOk P w K mg base CX0 2 t.a_QL t.d_QL ["cell", "other"] (spD ⟨t.c,K⟩ 2 Ji):=by
 have G_QD:=(ZjE (P:=P) (w:=w) (base:=base) T).mono (k:=1) (by decide);have G_QB:=(ZjD (P:=P) (w:=w) (base:=base) T).mono (k:=1) (by decide);have G_QO:=(ZjC (P:=P) (w:=w) (base:=base) T).mono (k:=1) (by decide);refine YB (φ:=f_QL) T.f_QL Zjk (by conv=>lhs;whnf) (by conv=>lhs;whnf) (λcdv A outer s H E hr => ?_) rfl rfl;refine⟨_,(Zq (Z9 (Yi (XM (cA:=⟨t.c,K⟩) (hr.units)) (Zt Yo (pv 0) Zn) Zn (Yp _)) (Zq (Zw (i:=2) ZkE (by rfl) (by first|exact Or.inl rfl|exact Or.inr rfl) (Zt (Z8 (K:=K)) Zn (Zt Yo (Zt Xd (pv 0) Zn) Zn)))
 (Zu (Z1 (Vg (Ze (Z2 (G_QO) hr (by rfl) T.g_QO T.k_QO T.b_QO .nil ZY (Ze (pv 1) (Ze (pv 2) Zj))) (Ze (Z2 (G_QB) hr (by rfl) T.g_QB T.k_QB T.b_QB .nil ZY (Ze (Zt Xd (pv 0) Zn) (Ze (pv 2) Zj))) (Ze Zn Zj))))))) Yg)
 (Zq (Zw (i:=3) ZkE (by rfl) (by first|exact Or.inl rfl|exact Or.inr rfl) (Zt Yo (Zt Xd (pv 0) Zn) Zn))
 (Zu (Z1 (Vg (Ze (Z2 (G_QO) hr (by rfl) T.g_QO T.k_QO T.b_QO .nil ZY (Ze (pv 1) (Ze Zn Zj))) (Ze (Z2 (G_QD) hr (by rfl) T.g_QD T.k_QD T.b_QD .nil ZY (Ze (Zt Yo (Zt Xd (pv 0) Zn) (Zt (Z8 (K:=K)) (pv 3) Zn)) (Ze (pv 3) Zj))) (Ze (pv 3) Zj)))))))),[],?_⟩
 unfold f_QL;exact(Zr (Yd (Yj (Zi XN (Zi Ys (Zc 0 (by rfl)) (Zl (d:=(.int 2)) (by rfl) (by rfl))) (Zl (d:=(.int 0)) (by rfl) (by rfl)))) (Zr (show VS _ _ [] _ _ _ _ from(ZK 2 (Zi Yl (Zl (d:=(.int 2)) (by rfl) (by rfl)) (Zi Ys (Zi Xe (Zc 0 (by rfl)) (Zl (d:=(.int 2)) (by rfl) (by rfl))) (Zl (d:=(.int 2)) (by rfl) (by rfl)))) (by rfl) (by rfl) (by rfl) (by rfl)))
 (Z4 (Vl (Zf (Z5 [] (by rfl) (Zf (Zc 1 (by rfl)) (Zf (Zc 2 (by rfl)) Zm))) (Zf (Z5 [] (by rfl) (Zf (Zi Xe (Zc 0 (by rfl)) (Zl (d:=(.int 4)) (by rfl) (by rfl))) (Zf (Zc 2 (by rfl)) Zm))) (Zf (Zl (d:=(.int 1)) (by rfl) (by rfl)) Zm)))))) Yk)
 (Zr (show VS _ _ [] _ _ _ _ from(ZK 3 (Zi Ys (Zi Xe (Zc 0 (by rfl)) (Zl (d:=(.int 2)) (by rfl) (by rfl))) (Zl (d:=(.int 4)) (by rfl) (by rfl))) (by rfl) (by rfl) (by rfl) (by rfl)))
 (Z4 (Vl (Zf (Z5 [] (by rfl) (Zf (Zc 1 (by rfl)) (Zf (Zl (d:=(.int 2)) (by rfl) (by rfl)) Zm))) (Zf (Z5 [] (by rfl) (Zf (Zi Ys (Zi Xe (Zc 0 (by rfl)) (Zl (d:=(.int 8)) (by rfl) (by rfl))) (Zi Yl (Zc 3 (by rfl)) (Zl (d:=(.int 1)) (by rfl) (by rfl)))) (Zf (Zc 3 (by rfl)) Zm))) (Zf (Zc 3 (by rfl)) Zm)))))))
theorem ZjG(T:Txt K mg t):FnOk P w K mg base CX0 1 t.a_QJ t.d_QJ ["marks", "ways", "room", "q"] (spD ⟨t.c,K⟩ 4 Jj):=by
 refine YB (φ:=f_QJ) T.f_QJ Zjl (by conv=>lhs;whnf) (by conv=>lhs;whnf) (λcdv A outer s H E hr => ?_) rfl rfl;refine⟨_,(Zq (Zw (i:=4) Up (by rfl) (by first|exact Or.inl rfl|exact Or.inr rfl) (Yv (Ze (Vg (Ze (U5 [] (by decide +kernel)) (Ze (pv 2) Zj))) Zj)))
 (Zq ((Yh PassesOwn.never (by rfl) (Y8 (by rfl) T.n_range (Ze (pv 3) Zj)) (ZI (i:=5) Up) (Zq (Zw (i:=6) Up (by rfl) (by first|exact Or.inl rfl|exact Or.inr rfl) (Yv Zj))
 (Zq ((Yh PassesOwn.never (by rfl) (YL (K:=K) (pv 4)) (V7 (K:=K) (n:=2) (YV (ZI (i:=7) Up) (YV (ZI (i:=8) Up) V4))) (Zu ((Yh PassesOwn.never (by rfl) (Y8 (by rfl) T.n_range (Ze (ZO (Z6 (K:=K)) (by rfl) T.n_len boot_len (Ze (pv 0) Zj)) Zj)) (ZI (i:=9) Up) (Zu (Z9 (QH (ZcN (ZC (ZD (K:=K)) (ZC (ZD (K:=K)) (pv 1) (pv 8) (λ_ _=>rfl)) (pv 9) (λ_ _=>rfl)))) (Zu (Xs (YH (K:=K) PySem.F.plainAttrs_list PySem.F.slot_list_append PySem.F.type_list_append Xu (pv 6) (Ze (Vg (Ze (Zt (Z8 (K:=K)) (pv 7) (ZC (ZD (K:=K)) (pv 0) (pv 9) (λ_ _=>rfl))) (Ze (ZC (ZD (K:=K)) (ZC (ZD (K:=K)) (pv 1) (pv 8) (λ_ _=>rfl)) (pv 9) (λ_ _=>rfl)) Zj))) Zj)))) Yg)))))))
 (Zu (Zw (i:=4) Up (by rfl) (by first|exact Or.inl rfl|exact Or.inr rfl) (pv 6)))))))
 (Zu (Z1 (pv 4))))),[],?_⟩
 unfold f_QJ;exact(Zr (show VS _ _ [] _ _ _ _ from(ZK 4 (VF.cl (Yw (Zf (Vl (Zf (Zl (d:=(.str [])) (by rfl) (by rfl)) (Zf (Zc 2 (by rfl)) Zm))) Zm))) (by rfl) (by rfl) (by rfl) (by rfl)))
 (Zr (Yn (Xb (Zf (Zc 3 (by rfl)) Zm) Y5) (ZR 5 (by rfl) (by rfl)) (Zr (show VS _ _ [6] _ _ _ _ from(Xn 6 (Yw Zm) (by rfl) (by rfl) (by rfl) (by rfl)))
 (Zr (Yn (YO (Zc 4 (by rfl))) (Qe (YX 7 (by rfl) (by rfl) (YX 8 (by rfl) (by rfl) Ub))) (Yn (Xb (Zf (ZV Z7 (Zf (Zc 0 (by rfl)) Zm)) Zm) Y5) (ZR 9 (by rfl) (by rfl)) (Yd (XO (Zc1 (Zi ZE (Zi ZE (Zc 1 (by rfl)) (Zc 8 (by rfl))) (Zc 9 (by rfl))))) (Xy 6 (by rfl) (Vl (Zf (Zi Yl (Zc 7 (by rfl)) (Zi ZE (Zc 0 (by rfl)) (Zc 9 (by rfl)))) (Zf (Zi ZE (Zi ZE (Zc 1 (by rfl)) (Zc 8 (by rfl))) (Zc 9 (by rfl))) Zm)))) Yk)))
 (VS.frz (ow1:=[]) 6 (show VS _ _ [] _ _ _ _ from(ZK 4 (Zc 6 (by rfl)) (by rfl) (by rfl) (by rfl) (by rfl))) (by rfl) (by rfl) (by rfl) (by rfl)))))
 (Z4 (Zc 4 (by rfl)))))
theorem ZjH(T:Txt K mg t):FnOk P w K mg base CX0 2 t.a_QH t.d_QH ["ground", "base", "cell"] (spD ⟨t.c,K⟩ 3 Jk):=by
 have G_QJ:=(ZjG (P:=P) (w:=w) (base:=base) T).mono (k:=1) (by decide);refine YB (φ:=f_QH) T.f_QH Zjm (by conv=>lhs;whnf) (by conv=>lhs;whnf) (λcdv A outer s H E hr => ?_) rfl rfl;refine⟨_,(Zq (Zw (i:=3) Uq (by rfl) (by first|exact Or.inl rfl|exact Or.inr rfl) (Yv Zj))
 (Zq ((Yh PassesOwn.never (by rfl) (Y8 (by rfl) T.n_range (Ze Zn Zj)) (ZI (i:=4) Uq) (Zq (Zw (i:=5) Uq (by rfl) (by first|exact Or.inl rfl|exact Or.inr rfl) (Yv Zj))
 (Zq ((Yh PassesOwn.never (by rfl) (YL (K:=K) (pv 1)) (ZI (i:=6) Uq) (Zq (Zw (i:=7) Uq (by rfl) (by first|exact Or.inl rfl|exact Or.inr rfl) (Z2 (G_QJ) hr (by rfl) T.g_QJ T.k_QJ T.b_QJ .nil ZY (Ze (ZC (ZD (K:=K)) (pv 0) Zn (λ_ _=>rfl)) (Ze (ZC (ZD (K:=K)) (pv 0) Zn (λ_ _=>rfl)) (Ze (pv 6) (Ze (Zt (Z8 (K:=K)) Zn (Zt Yo (Zt (Z8 (K:=K)) (pv 2) (pv 4)) Zn)) Zj))))))
 (Zu (Xs (YH (K:=K) PySem.F.plainAttrs_list PySem.F.slot_list_append PySem.F.type_list_append Xu (pv 5) (Ze (Vj (by rfl) (CompSc.mk' (tn:=["pair"]) (cn:=["base"]) (js:=[1]) (osc:=defScope XX) (oN:=["ground", "base", "cell", "best", "step", "found", "room", "blocks", "fewest"]) (by rfl) (by rfl) (by rfl) (by decide +kernel)) (YL (K:=K) (pv 7)) (λC s₂ H₂ fp=>ZI (i:=0) ZkY) (λC s₂ H₂ fp=>(ZcV (Yi (Zhh (K:=K)) (ZC (ZD (K:=K)) (pv 0) Zn (λ_ _=>rfl)) (pv 1) (by rfl)))) (λC s₂ H₂ fp=>(pv 0))) Zj)))))))
 (Zq (Zw (i:=8) Uq (by rfl) (by first|exact Or.inl rfl|exact Or.inr rfl) (ZO (Zft (K:=K)) (by rfl) T.n_min boot_min (Ze (Vj (by rfl) (CompSc.mk' (tn:=["blocks"]) (cn:=[]) (js:=[]) (osc:=defScope XX) (oN:=["ground", "base", "cell", "best", "step", "found", "room", "blocks", "fewest"]) (by rfl) (by rfl) (by rfl) (by decide +kernel)) (YL (K:=K) (pv 5)) (λC s₂ H₂ fp=>ZI (i:=0) ZkZ) (λC s₂ H₂ fp=>X1) (λC s₂ H₂ fp=>(ZO (Z6 (K:=K)) (by rfl) T.n_len boot_len (Ze (pv 0) Zj)))) Zj)))
 (Zq (Z9 (Yi QK (pv 8) Zn (Yp _)) (Zu (Z1 (pv 5))) Yg)
 (Zu (Z9 (PW.pt (Zfd (Yi (XM (cA:=⟨t.c,K⟩) (hr.units)) (pv 8) Zn (Yp _)) (ZcO (Yi (XM (cA:=⟨t.c,K⟩) (hr.units)) (pv 3) (Yv Zj) (Yp _))))) (Zu (Zw (i:=3) Uq (by rfl) (by first|exact Or.inl rfl|exact Or.inr rfl) (pv 5))) Yg))))))))
 (Zu (Z1 (pv 3))))),[],?_⟩
 unfold f_QH;exact(Zr (show VS _ _ [] _ _ _ _ from(ZK 3 (VF.cl (Yw Zm)) (by rfl) (by rfl) (by rfl) (by rfl)))
 (Zr (Yn (Xb (Zf (Zl (d:=(.int 4)) (by rfl) (by rfl)) Zm) Y5) (ZR 4 (by rfl) (by rfl)) (Zr (show VS _ _ [5] _ _ _ _ from(Xn 5 (Yw Zm) (by rfl) (by rfl) (by rfl) (by rfl)))
 (Zr (Yn (YO (Zc 1 (by rfl))) (ZR 6 (by rfl) (by rfl)) (Zr (show VS _ _ [5] _ _ _ _ from(ZK 7 (Z5 [] (by rfl) (Zf (Zi ZE (Zc 0 (by rfl)) (Zl (d:=(.int 0)) (by rfl) (by rfl))) (Zf (Zi ZE (Zc 0 (by rfl)) (Zl (d:=(.int 1)) (by rfl) (by rfl))) (Zf (Zc 6 (by rfl)) (Zf (Zi Yl (Zl (d:=(.int 1)) (by rfl) (by rfl)) (Zi Ys (Zi Yl (Zc 2 (by rfl)) (Zc 4 (by rfl))) (Zl (d:=(.int 4)) (by rfl) (by rfl)))) Zm))))) (by rfl) (by rfl) (by rfl) (by rfl)))
 (Xy 5 (by rfl) (VF.cl (XR (by rfl) (YO (Zc 7 (by rfl))) (ZR 0 (by rfl) (by rfl)) (Yj (Zi Zhq (Zi ZE (Zc 0 (by rfl)) (Zl (d:=(.int 1)) (by rfl) (by rfl))) (Zc 1 (by rfl)))) (Zc 0 (by rfl)))))))
 (VS.frz (ow1:=[]) 5 (Zr (show VS _ _ [] _ _ _ _ from(ZK 8 (ZV Zdc (Zf (VF.cl (XR (by rfl) (YO (Zc 5 (by rfl))) (ZR 0 (by rfl) (by rfl)) X3 (ZV Z7 (Zf (Zc 0 (by rfl)) Zm)))) Zm)) (by rfl) (by rfl) (by rfl) (by rfl)))
 (Zr (Yd (Yj (Zi Vk (Zc 8 (by rfl)) (Zl (d:=(.int 1)) (by rfl) (by rfl)))) (Z4 (Zc 5 (by rfl))) Yk)
 (Yd (Zfo (Yj (Zi XN (Zc 8 (by rfl)) (Zl (d:=(.int 1)) (by rfl) (by rfl)))) (Yj (Zi XN (Zc 3 (by rfl)) (VF.cl (Yw Zm))))) (show VS _ _ [] _ _ _ _ from(ZK 3 (Zc 5 (by rfl)) (by rfl) (by rfl) (by rfl) (by rfl))) Yk))) (by rfl) (by rfl) (by rfl) (by rfl)))))
 (Z4 (Zc 3 (by rfl)))))
theorem ZjI(T:Txt K mg t):FnOk P w K mg base CX0 1 t.a_QM t.d_QM ["marks", "ways"] (spD ⟨t.c,K⟩ 2 Jl):=by
 refine YB (φ:=f_QM) T.f_QM Zjn (by conv=>lhs;whnf) (by conv=>lhs;whnf) (λcdv A outer s H E hr => ?_) rfl rfl;refine⟨_,(Zq (Zw (i:=2) UP (by rfl) (by first|exact Or.inl rfl|exact Or.inr rfl) (Zf9 (Zey Zn (U5 [] (by decide +kernel)) Zf8) (by rfl) (by rfl) (List.cons_ne_nil _ _) (Nat.le_of_ble_eq_true rfl)))
 (Zq (Zw (i:=3) UP (by rfl) (by first|exact Or.inl rfl|exact Or.inr rfl) (Yv (Ze Zn Zj)))
 (Zq (Zw (i:=4) UP (by rfl) (by first|exact Or.inl rfl|exact Or.inr rfl) Zn)
 (Zq ((Zej PassesOwn.never (Yi Ux (pv 4) (ZO (Z6 (K:=K)) (by rfl) T.n_len boot_len (Ze (pv 3) Zj)) (Yp _)) (Zq ((Yh PassesOwn.never (by rfl) (Y8 (by rfl) T.n_range (Ze (ZO (Z6 (K:=K)) (by rfl) T.n_len boot_len (Ze (pv 0) Zj)) Zj)) (ZI (i:=5) UP) (Zq (Zw (i:=6) UP (by rfl) (by first|exact Or.inl rfl|exact Or.inr rfl) (ZC (ZD (K:=K)) (ZC (ZD (K:=K)) (pv 1) (ZC (ZD (K:=K)) (pv 3) (pv 4) (λ_ _=>rfl)) (λ_ _=>rfl)) (pv 5) (λ_ _=>rfl)))
 (Zu (Z9 (PW.pt (Zfd (QH (ZcN (pv 6))) (ZcO (QH (ZdU (UM hr.units) (pv 6) (pv 2)))))) (Zq (J9 (UM hr.units) (pv 2) (pv 6) (Zt (Z8 (K:=K)) (ZcX (UM hr.units) (pv 2) (ZC (ZD (K:=K)) (pv 3) (pv 4) (λ_ _=>rfl)) (λ_ _=>rfl)) (ZC (ZD (K:=K)) (pv 0) (pv 5) (λ_ _=>rfl))) (by rfl))
 (Zu (Xs (YH (K:=K) PySem.F.plainAttrs_list PySem.F.slot_list_append PySem.F.type_list_append Xu (pv 3) (Ze (pv 6) Zj))))) Yg)))))
 (Zu (Zw (i:=4) UP (by rfl) (by first|exact Or.inl rfl|exact Or.inr rfl) (Zt (Z8 (K:=K)) (pv 4) Zn))))))
 (Zu (Z1 (pv 2))))))),[],?_⟩
 unfold f_QM;exact(Zr (show VS _ _ [2] _ _ _ _ from Zgo 2 (ZeL (Zl (d:=(.int 0)) (by rfl) (by rfl)) (Zl (d:=(.str [])) (by rfl) (by rfl))) (by rfl) (by rfl) (by rfl) (by rfl))
 (Zr (show VS _ _ [2,3] _ _ _ _ from(Xn 3 (Yw (Zf (Zl (d:=(.int 0)) (by rfl) (by rfl)) Zm)) (by rfl) (by rfl) (by rfl) (by rfl)))
 (Zr (show VS _ _ [2,3] _ _ _ _ from(ZK 4 (Zl (d:=(.int 0)) (by rfl) (by rfl)) (by rfl) (by rfl) (by rfl) (by rfl)))
 (Zr (ZeA (ow:=[2,3]) (Yj (Zi Vk (Zc 4 (by rfl)) (ZV Z7 (Zf (V8 3 (by rfl)) Zm)))) (Zr (Yn (Xb (Zf (ZV Z7 (Zf (Zc 0 (by rfl)) Zm)) Zm) Y5) (ZR 5 (by rfl) (by rfl)) (Zr (show VS _ _ [2,3] _ _ _ _ from(ZK 6 (Zi ZE (Zi ZE (Zc 1 (by rfl)) (Zi ZE (V8 3 (by rfl)) (Zc 4 (by rfl)))) (Zc 5 (by rfl))) (by rfl) (by rfl) (by rfl) (by rfl)))
 (Yd (Zfo (XO (Zc1 (Zc 6 (by rfl)))) (XO (Zd0 (Zc 6 (by rfl)) (V8 2 (by rfl))))) (Zr (Zgp 2 (by rfl) (Zi Yl (Zda (Or.inr rfl) (V8 2 (by rfl)) (Zi ZE (V8 3 (by rfl)) (Zc 4 (by rfl)))) (Zi ZE (Zc 0 (by rfl)) (Zc 5 (by rfl)))) (Zc 6 (by rfl)))
 (Xy 3 (by rfl) (Zc 6 (by rfl)))) Yk)))
 (show VS _ _ [2,3] _ _ _ _ from(ZK 4 (Zi Yl (Zc 4 (by rfl)) (Zl (d:=(.int 1)) (by rfl) (by rfl))) (by rfl) (by rfl) (by rfl) (by rfl)))))
 (VS.frz (ow1:=[2]) 3 (VS.frz (ow1:=[]) 2 (Z4 (Zc 2 (by rfl))) (by rfl) (by rfl) (by rfl) (by rfl)) (by rfl) (by rfl) (by rfl) (by rfl))))))
theorem ZjJ(T:Txt K mg t):FnOk P w K mg base CX0 1 t.a_QF t.d_QF ["base", "choices", "n", "depth", "cells"] (spD ⟨t.c,K⟩ 5 Jm):=by
 refine YB (φ:=f_QF) T.f_QF Zjo (by conv=>lhs;whnf) (by conv=>lhs;whnf) (λcdv A outer s H E hr => ?_) rfl rfl;refine⟨_,(Zq (Zw (i:=5) Y2 (by rfl) (by first|exact Or.inl rfl|exact Or.inr rfl) Zn)
 (Zq ((Yh PassesOwn.never (by rfl) (Y8 (by rfl) T.n_range (Ze (pv 3) Zj)) (ZI (i:=6) Y2) (Zu (Zw (i:=5) Y2 (by rfl) (by first|exact Or.inl rfl|exact Or.inr rfl) (Zt (VZ (K:=K)) (pv 5) (pv 2))))))
 (Zq (Zw (i:=7) Y2 (by rfl) (by first|exact Or.inl rfl|exact Or.inr rfl) (Yv Zj))
 (Zq (Zw (i:=8) Y2 (by rfl) (by first|exact Or.inl rfl|exact Or.inr rfl) (Yv Zj))
 (Zq ((Yh PassesOwn.never (by rfl) (YL (K:=K) (pv 0)) (ZI (i:=9) Y2) (Zu ((Yh PassesOwn.never (by rfl) (Y8 (by rfl) T.n_range (Ze (pv 5) Zj)) (ZI (i:=10) Y2) (Zq (Zw (i:=11) Y2 (by rfl) (by first|exact Or.inl rfl|exact Or.inr rfl) (Yv Zj))
 (Zq ((Yh PassesOwn.never (by rfl) (Y8 (by rfl) T.n_range (Ze (pv 2) Zj)) (ZI (i:=12) Y2) (Zq (Zw (i:=13) Y2 (by rfl) (by first|exact Or.inl rfl|exact Or.inr rfl) (Zt Yo (Zt (Z8 (K:=K)) (pv 12) (Zt Xd (ZC (ZD (K:=K)) (pv 4) (Zt Yo (ZO (Z6 (K:=K)) (by rfl) T.n_len boot_len (Ze (pv 7) Zj)) Zn) (λ_ _=>rfl)) Zn)) (pv 2)))
 (Zq (Zw (i:=14) Y2 (by rfl) (by first|exact Or.inl rfl|exact Or.inr rfl) (pv 13))
 (Zq (Zw (i:=15) Y2 (by rfl) (by first|exact Or.inl rfl|exact Or.inr rfl) Zn)
 (Zq (Z9 (Yi QK (pv 3) Zn (Yp _)) (Zq (Zw (i:=14) Y2 (by rfl) (by first|exact Or.inl rfl|exact Or.inr rfl) (Zt Xd (pv 10) (Zt Xd (pv 5) (pv 2))))
 (Zu (Zw (i:=15) Y2 (by rfl) (by first|exact Or.inl rfl|exact Or.inr rfl) (Zt (Z8 (K:=K)) (Zt (VZ (K:=K)) (Zt Yo (pv 10) (Zt Xd (pv 5) (pv 2))) (pv 2)) (pv 13))))) Yg)
 (Zq (Uw (ZC (ZD (K:=K)) (ZC (ZD (K:=K)) (pv 1) (YH (K:=K) PySem.F.plainAttrs_list PySem.F.slot_list_index PySem.F.type_list_index (Za1 (K:=K)) (pv 0) (Ze (pv 9) Zj)) (λ_ _=>rfl)) (pv 14) (λ_ _=>rfl)) (V7 (K:=K) (n:=2) (YV (ZI (i:=16) Y2) (YV (ZI (i:=17) Y2) V4))))
 (Zu (Xs (YH (K:=K) PySem.F.plainAttrs_list PySem.F.slot_list_append PySem.F.type_list_append Xu (pv 11) (Ze (Vg (Ze (pv 16) (Ze (Zt (Z8 (K:=K)) (Zt (VZ (K:=K)) (YH (K:=K) PySem.F.plainAttrs_list PySem.F.slot_list_index PySem.F.type_list_index (Za1 (K:=K)) (pv 0) (Ze (pv 17) Zj)) (pv 5)) (pv 15)) Zj))) Zj)))))))))))
 (Zq (Xs (YH (K:=K) PySem.F.plainAttrs_list PySem.F.slot_list_append PySem.F.type_list_append Xu (pv 7) (Ze (pv 9) Zj)))
 (Zu (Xs (YH (K:=K) PySem.F.plainAttrs_list PySem.F.slot_list_append PySem.F.type_list_append Xu (pv 8) (Ze (Xk (XJ (K:=K)) (by rfl) T.n_tuple boot_tuple (Ze (pv 11) Zj)) Zj))))))))))))
 (Zu (Z1 (Vg (Ze (Xk (XJ (K:=K)) (by rfl) T.n_tuple boot_tuple (Ze (pv 7) Zj)) (Ze (Xk (XJ (K:=K)) (by rfl) T.n_tuple boot_tuple (Ze (pv 8) Zj)) Zj)))))))))),[],?_⟩
 unfold f_QF;exact(Zr (show VS _ _ [] _ _ _ _ from(ZK 5 (Zl (d:=(.int 1)) (by rfl) (by rfl)) (by rfl) (by rfl) (by rfl) (by rfl)))
 (Zr (Yn (Xb (Zf (Zc 3 (by rfl)) Zm) Y5) (ZR 6 (by rfl) (by rfl)) (show VS _ _ [] _ _ _ _ from(ZK 5 (Zi Ue (Zc 5 (by rfl)) (Zc 2 (by rfl))) (by rfl) (by rfl) (by rfl) (by rfl))))
 (Zr (show VS _ _ [7] _ _ _ _ from(Xn 7 (Yw Zm) (by rfl) (by rfl) (by rfl) (by rfl)))
 (Zr (show VS _ _ [7,8] _ _ _ _ from(Xn 8 (Yw Zm) (by rfl) (by rfl) (by rfl) (by rfl)))
 (Zr (Yn (YO (Zc 0 (by rfl))) (ZR 9 (by rfl) (by rfl)) (Yn (Xb (Zf (Zc 5 (by rfl)) Zm) Y5) (ZR 10 (by rfl) (by rfl)) (Zr (show VS _ _ [7,8,11] _ _ _ _ from(Xn 11 (Yw Zm) (by rfl) (by rfl) (by rfl) (by rfl)))
 (Zr (Yn (Xb (Zf (Zc 2 (by rfl)) Zm) Y5) (ZR 12 (by rfl) (by rfl)) (Zr (show VS _ _ [7,8,11] _ _ _ _ from(ZK 13 (Zi Ys (Zi Yl (Zc 12 (by rfl)) (Zi Xe (Zi ZE (Zc 4 (by rfl)) (Zi Ys (ZV Z7 (Zf (V8 7 (by rfl)) Zm)) (Zl (d:=(.int 8)) (by rfl) (by rfl)))) (Zl (d:=(.int 3)) (by rfl) (by rfl)))) (Zc 2 (by rfl))) (by rfl) (by rfl) (by rfl) (by rfl)))
 (Zr (show VS _ _ [7,8,11] _ _ _ _ from(ZK 14 (Zc 13 (by rfl)) (by rfl) (by rfl) (by rfl) (by rfl)))
 (Zr (show VS _ _ [7,8,11] _ _ _ _ from(ZK 15 (Zl (d:=(.int 0)) (by rfl) (by rfl)) (by rfl) (by rfl) (by rfl) (by rfl)))
 (Zr (Yd (Yj (Zi Vk (Zc 3 (by rfl)) (Zl (d:=(.int 0)) (by rfl) (by rfl)))) (Zr (show VS _ _ [7,8,11] _ _ _ _ from(ZK 14 (Zi Xe (Zc 10 (by rfl)) (Zi Xe (Zc 5 (by rfl)) (Zc 2 (by rfl)))) (by rfl) (by rfl) (by rfl) (by rfl)))
 (show VS _ _ [7,8,11] _ _ _ _ from(ZK 15 (Zi Yl (Zi Ue (Zi Ys (Zc 10 (by rfl)) (Zi Xe (Zc 5 (by rfl)) (Zc 2 (by rfl)))) (Zc 2 (by rfl))) (Zc 13 (by rfl))) (by rfl) (by rfl) (by rfl) (by rfl)))) Yk)
 (Zr (Zbl (Zi ZE (Zi ZE (Zc 1 (by rfl)) (Zhz ZbQ (Zc 0 (by rfl)) (Zc 9 (by rfl)))) (Zc 14 (by rfl))) (Qe (YX 16 (by rfl) (by rfl) (YX 17 (by rfl) (by rfl) Ub))))
 (Xy 11 (by rfl) (Vl (Zf (Zc 16 (by rfl)) (Zf (Zi Yl (Zi Ue (Zhz ZbQ (Zc 0 (by rfl)) (Zc 17 (by rfl))) (Zc 5 (by rfl))) (Zc 15 (by rfl))) Zm))))))))))
 (VS.frz (ow1:=[7,8]) 11 (Zr (Xy 7 (by rfl) (Zc 9 (by rfl)))
 (Xy 8 (by rfl) (XQ (Zf (Zc 11 (by rfl)) Zm)))) (by rfl) (by rfl) (by rfl) (by rfl))))))
 (VS.frz (ow1:=[7]) 8 (VS.frz (ow1:=[]) 7 (Z4 (Vl (Zf (XQ (Zf (Zc 7 (by rfl)) Zm)) (Zf (XQ (Zf (Zc 8 (by rfl)) Zm)) Zm)))) (by rfl) (by rfl) (by rfl) (by rfl)) (by rfl) (by rfl) (by rfl) (by rfl)))))))
theorem ZjK(T:Txt K mg t):FnOk P w K mg base CX0 3 t.a_QR t.d_QR ["script", "cells"] (spD ⟨t.c,K⟩ 2 Jn):=by
 have G_QG:=(ZhE (P:=P) (w:=w) (base:=base) T).mono (k:=2) (by decide);have G_QH:=(ZjH (P:=P) (w:=w) (base:=base) T).mono (k:=2) (by decide);have G_QF:=(ZjJ (P:=P) (w:=w) (base:=base) T).mono (k:=2) (by decide);have G_QL:=(ZjF (P:=P) (w:=w) (base:=base) T).mono (k:=2) (by decide);refine YB (φ:=f_QR) T.f_QR Zjp (by conv=>lhs;whnf) (by conv=>lhs;whnf) (λcdv A outer s H E hr => ?_) rfl rfl
 refine⟨_,(Zq (Zw (i:=2) XY (by rfl) (by first|exact Or.inl rfl|exact Or.inr rfl) (Z2 (G_QL) hr (by rfl) T.g_QL T.k_QL T.b_QL .nil ZY (Ze (Z2 (G_QG) hr (by rfl) T.g_QG T.k_QG T.b_QG .nil ZY (Ze (pv 0) (Ze Zn Zj))) (Ze (Z2 (G_QG) hr (by rfl) T.g_QG T.k_QG T.b_QG .nil ZY (Ze (pv 0) (Ze Zn Zj))) Zj))))
 (Zq (Zw (i:=3) XY (by rfl) (by first|exact Or.inl rfl|exact Or.inr rfl) (Zcl (by rfl) (by rfl) T.n_list (by rfl) T.n_range (Ze (ZO (Z6 (K:=K)) (by rfl) T.n_len boot_len (Ze (ZC (ZD (K:=K)) (pv 2) Zn (λ_ _=>rfl)) Zj)) Zj)))
 (Zq (Z9 (Yi (XM (cA:=⟨t.c,K⟩) (hr.units)) (Zt Yo (Zt Xd (Z2 (G_QG) hr (by rfl) T.g_QG T.k_QG T.b_QG .nil ZY (Ze (pv 0) (Ze Zn Zj))) Zn) Zn) Zn (Yp _)) (Zu (Zw (i:=3) XY (by rfl) (by first|exact Or.inl rfl|exact Or.inr rfl) (Yv (Ze (Zt Yo (Zt Xd (Z2 (G_QG) hr (by rfl) T.g_QG T.k_QG T.b_QG .nil ZY (Ze (pv 0) (Ze Zn Zj))) Zn) (ZO (Z6 (K:=K)) (by rfl) T.n_len boot_len (Ze (pv 3) Zj))) Zj)))) Yg)
 (Zq (Zw (i:=4) XY (by rfl) (by first|exact Or.inl rfl|exact Or.inr rfl) (Z2 (G_QH) hr (by rfl) T.g_QH T.k_QH T.b_QH .nil ZY (Ze (pv 2) (Ze (pv 3) (Ze (Z2 (G_QG) hr (by rfl) T.g_QG T.k_QG T.b_QG .nil ZY (Ze (pv 0) (Ze Zn Zj))) Zj)))))
 (Zq (Zw (i:=5) XY (by rfl) (by first|exact Or.inl rfl|exact Or.inr rfl) (ZO (Zft (K:=K)) (by rfl) T.n_min boot_min (Ze (Zt (Z8 (K:=K)) (Yv (Ze (Zt (Z8 (K:=K)) Zn (Zt Yo (Zt Xd (Z2 (G_QG) hr (by rfl) T.g_QG T.k_QG T.b_QG .nil ZY (Ze (pv 0) (Ze Zn Zj))) Zn) Zn)) Zj)) (Vj (by rfl) (CompSc.mk' (tn:=["row"]) (cn:=[]) (js:=[]) (osc:=defScope Vb) (oN:=["script", "cells", "ground", "base", "choices", "n", "depth", "homes", "ways"]) (by rfl) (by rfl) (by rfl) (by decide +kernel)) (YL (K:=K) (pv 4)) (λC s₂ H₂ fp=>ZI (i:=0) Zk0) (λC s₂ H₂ fp=>X1) (λC s₂ H₂ fp=>(ZO (Z6 (K:=K)) (by rfl) T.n_len boot_len (Ze (pv 0) Zj))))) Zj)))
 (Zq (Zw (i:=6) XY (by rfl) (by first|exact Or.inl rfl|exact Or.inr rfl) (ZC (ZD (K:=K)) (Yv (Ze Zn (Ze Zn (Ze Zn (Ze Zn (Ze Zn (Ze Zn (Ze Zn (Ze Zn Zj))))))))) (Zt Yo (Zt Xd (Z2 (G_QG) hr (by rfl) T.g_QG T.k_QG T.b_QG .nil ZY (Ze (pv 0) (Ze Zn Zj))) Zn) Zn) (λ_ _=>rfl)))
 (Zq (Z9 (Yi QK (ZO (Z6 (K:=K)) (by rfl) T.n_len boot_len (Ze (pv 3) Zj)) Zn (Yp _)) (Zu (Zw (i:=6) XY (by rfl) (by first|exact Or.inl rfl|exact Or.inr rfl) (ZO (ZaP (by rfl)) (by rfl) T.n_min boot_min (Ze (pv 6) (Ze Zn Zj))))) Yg)
 (Zq (Z9 (Yi (XM (cA:=⟨t.c,K⟩) (hr.units)) (pv 5) Zn (Yp _)) (Zu (Zw (i:=6) XY (by rfl) (by first|exact Or.inl rfl|exact Or.inr rfl) (ZO (ZaP (by rfl)) (by rfl) T.n_min boot_min (Ze (pv 6) (Ze Zn Zj))))) Yg)
 (Zq (Z9 (Yi (XM (cA:=⟨t.c,K⟩) (hr.units)) (pv 5) Zn (Yp _)) (Zu (Zw (i:=6) XY (by rfl) (by first|exact Or.inl rfl|exact Or.inr rfl) Zn)) Yg)
 (Zq (Uw (Z2 (G_QF) hr (by rfl) T.g_QF T.k_QF T.b_QF .nil ZY (Ze (pv 3) (Ze (pv 4) (Ze (pv 5) (Ze (pv 6) (Ze (pv 1) Zj)))))) (V7 (K:=K) (n:=2) (YV (ZI (i:=7) XY) (YV (ZI (i:=8) XY) V4))))
 (Zu (Z1 (Vg (Ze (pv 2) (Ze (pv 7) (Ze (pv 8) (Ze (pv 6) Zj))))))))))))))))),[],?_⟩
 unfold f_QR;exact(Zr (show VS _ _ [] _ _ _ _ from(ZK 2 (Z5 [] (by rfl) (Zf (Z5 [] (by rfl) (Zf (Zc 0 (by rfl)) (Zf (Zl (d:=(.int 1)) (by rfl) (by rfl)) Zm))) (Zf (Z5 [] (by rfl) (Zf (Zc 0 (by rfl)) (Zf (Zl (d:=(.int 2)) (by rfl) (by rfl)) Zm))) Zm))) (by rfl) (by rfl) (by rfl) (by rfl)))
 (Zr (show VS _ _ [] _ _ _ _ from(ZK 3 (VF.cl (Zcm (Zf (ZV Z7 (Zf (Zi ZE (Zc 2 (by rfl)) (Zl (d:=(.int 1)) (by rfl) (by rfl))) Zm)) Zm))) (by rfl) (by rfl) (by rfl) (by rfl)))
 (Zr (Yd (Yj (Zi XN (Zi Ys (Zi Xe (Z5 [] (by rfl) (Zf (Zc 0 (by rfl)) (Zf (Zl (d:=(.int 2)) (by rfl) (by rfl)) Zm))) (Zl (d:=(.int 36)) (by rfl) (by rfl))) (Zl (d:=(.int 2)) (by rfl) (by rfl))) (Zl (d:=(.int 1)) (by rfl) (by rfl)))) (show VS _ _ [] _ _ _ _ from(ZK 3 (VF.cl (Yw (Zf (Zi Ys (Zi Xe (Z5 [] (by rfl) (Zf (Zc 0 (by rfl)) (Zf (Zl (d:=(.int 2)) (by rfl) (by rfl)) Zm))) (Zl (d:=(.int 72)) (by rfl) (by rfl))) (ZV Z7 (Zf (Zc 3 (by rfl)) Zm))) Zm))) (by rfl) (by rfl) (by rfl) (by rfl))) Yk)
 (Zr (show VS _ _ [] _ _ _ _ from(ZK 4 (Z5 [] (by rfl) (Zf (Zc 2 (by rfl)) (Zf (Zc 3 (by rfl)) (Zf (Z5 [] (by rfl) (Zf (Zc 0 (by rfl)) (Zf (Zl (d:=(.int 3)) (by rfl) (by rfl)) Zm))) Zm)))) (by rfl) (by rfl) (by rfl) (by rfl)))
 (Zr (show VS _ _ [] _ _ _ _ from(ZK 5 (ZV Zdc (Zf (VF.cl (Zfv (VF.cl (Yw (Zf (Zi Yl (Zl (d:=(.int 1)) (by rfl) (by rfl)) (Zi Ys (Zi Xe (Z5 [] (by rfl) (Zf (Zc 0 (by rfl)) (Zf (Zl (d:=(.int 3)) (by rfl) (by rfl)) Zm))) (Zl (d:=(.int 4)) (by rfl) (by rfl))) (Zl (d:=(.int 3)) (by rfl) (by rfl)))) Zm))) (VF.cl (XR (by rfl) (YO (Zc 4 (by rfl))) (ZR 0 (by rfl) (by rfl)) X3 (ZV Z7 (Zf (Zc 0 (by rfl)) Zm)))))) Zm)) (by rfl) (by rfl) (by rfl) (by rfl)))
 (Zr (show VS _ _ [] _ _ _ _ from(ZK 6 (Zi ZE (VF.cl (Yw (Zf (Zl (d:=(.int 0)) (by rfl) (by rfl)) (Zf (Zl (d:=(.int 0)) (by rfl) (by rfl)) (Zf (Zl (d:=(.int 1)) (by rfl) (by rfl)) (Zf (Zl (d:=(.int 1)) (by rfl) (by rfl)) (Zf (Zl (d:=(.int 1)) (by rfl) (by rfl)) (Zf (Zl (d:=(.int 2)) (by rfl) (by rfl)) (Zf (Zl (d:=(.int 2)) (by rfl) (by rfl)) (Zf (Zl (d:=(.int 3)) (by rfl) (by rfl)) Zm)))))))))) (Zi Ys (Zi Xe (Z5 [] (by rfl) (Zf (Zc 0 (by rfl)) (Zf (Zl (d:=(.int 3)) (by rfl) (by rfl)) Zm))) (Zl (d:=(.int 12)) (by rfl) (by rfl))) (Zl (d:=(.int 8)) (by rfl) (by rfl)))) (by rfl) (by rfl) (by rfl) (by rfl)))
 (Zr (Yd (Yj (Zi Vk (ZV Z7 (Zf (Zc 3 (by rfl)) Zm)) (Zl (d:=(.int 2)) (by rfl) (by rfl)))) (show VS _ _ [] _ _ _ _ from(ZK 6 (ZV Zfp (Zf (Zc 6 (by rfl)) (Zf (Zl (d:=(.int 2)) (by rfl) (by rfl)) Zm))) (by rfl) (by rfl) (by rfl) (by rfl))) Yk)
 (Zr (Yd (Yj (Zi XN (Zc 5 (by rfl)) (Zl (d:=(.int 3)) (by rfl) (by rfl)))) (show VS _ _ [] _ _ _ _ from(ZK 6 (ZV Zfp (Zf (Zc 6 (by rfl)) (Zf (Zl (d:=(.int 1)) (by rfl) (by rfl)) Zm))) (by rfl) (by rfl) (by rfl) (by rfl))) Yk)
 (Zr (Yd (Yj (Zi XN (Zc 5 (by rfl)) (Zl (d:=(.int 1)) (by rfl) (by rfl)))) (show VS _ _ [] _ _ _ _ from(ZK 6 (Zl (d:=(.int 0)) (by rfl) (by rfl)) (by rfl) (by rfl) (by rfl) (by rfl))) Yk)
 (Zr (Zbl (Z5 [] (by rfl) (Zf (Zc 3 (by rfl)) (Zf (Zc 4 (by rfl)) (Zf (Zc 5 (by rfl)) (Zf (Zc 6 (by rfl)) (Zf (Zc 1 (by rfl)) Zm)))))) (Qe (YX 7 (by rfl) (by rfl) (YX 8 (by rfl) (by rfl) Ub))))
 (Z4 (Vl (Zf (Zc 2 (by rfl)) (Zf (Zc 7 (by rfl)) (Zf (Zc 8 (by rfl)) (Zf (Zc 6 (by rfl)) Zm))))))))))))))))
theorem ZjL(T:Txt K mg t):FnOk P w K mg base CX0 1 t.a_QP t.d_QP ["ground", "row"] (spD ⟨t.c,K⟩ 2 Jo):=by
 refine YB (φ:=f_QP) T.f_QP Zjq (by conv=>lhs;whnf) (by conv=>lhs;whnf) (λcdv A outer s H E hr => ?_) rfl rfl;refine⟨_,(Zq (Zw (i:=2) ZiQ (by rfl) (by first|exact Or.inl rfl|exact Or.inr rfl) Zn)
 (Zq ((Yh PassesOwn.never (by rfl) (YL (K:=K) (pv 1)) (ZI (i:=3) ZiQ) (Zq (Zw (i:=2) ZiQ (by rfl) (by first|exact Or.inl rfl|exact Or.inr rfl) (ZC (ZD (K:=K)) (ZC (ZD (K:=K)) (ZC (ZD (K:=K)) (pv 0) Zn (λ_ _=>rfl)) (pv 2) (λ_ _=>rfl)) (YH (K:=K) PySem.F.plainAttrs_str PySem.F.slot_str_index PySem.F.type_str_index ZeD (ZC (ZD (K:=K)) (pv 0) Zn (λ_ _=>rfl)) (Ze (pv 3) Zj)) (λ_ _=>rfl)))
 (Zu (Z9 (QH (ZhU (pv 2))) (Zu (Z1 VM)) Yg)))))
 (Zu (Z1 VM)))),[],?_⟩
 unfold f_QP;exact(Zr (show VS _ _ [] _ _ _ _ from(ZK 2 (Zl (d:=(.int 0)) (by rfl) (by rfl)) (by rfl) (by rfl) (by rfl) (by rfl)))
 (Zr (Yn (YO (Zc 1 (by rfl))) (ZR 3 (by rfl) (by rfl)) (Zr (show VS _ _ [] _ _ _ _ from(ZK 2 (Zi ZE (Zi ZE (Zi ZE (Zc 0 (by rfl)) (Zl (d:=(.int 1)) (by rfl) (by rfl))) (Zc 2 (by rfl))) (Q2 ZeE (Zi ZE (Zc 0 (by rfl)) (Zl (d:=(.int 0)) (by rfl) (by rfl))) (Zf (Zc 3 (by rfl)) Zm))) (by rfl) (by rfl) (by rfl) (by rfl)))
 (Yd (XO (Zh7 (Zc 2 (by rfl)))) (Z4 (Zl (d:=(.bl false)) (by rfl) (by rfl))) Yk)))
 (Z4 (Zl (d:=(.bl true)) (by rfl) (by rfl)))))
theorem ZjM(T:Txt K mg t):FnOk P w K mg base CX0 4 t.a_QQ t.d_QQ ["ground", "table", "signs"] (spD ⟨t.c,K⟩ 3 Uo):=by
 have G_QP:=(ZjL (P:=P) (w:=w) (base:=base) T).mono (k:=3) (by decide);have G_QT:=(Zjz (P:=P) (w:=w) (base:=base) T).mono (k:=3) (by decide);have G_QS:=(Zjv (P:=P) (w:=w) (base:=base) T).mono (k:=3) (by decide);refine YB (φ:=f_QQ) T.f_QQ Zjr (by conv=>lhs;whnf) (by conv=>lhs;whnf) (λcdv A outer s H E hr => ?_) rfl rfl;refine⟨_,(Zq (Zw (i:=3) ZiR (by rfl) (by first|exact Or.inl rfl|exact Or.inr rfl) (Z2 (G_QS) hr (by rfl) T.g_QS T.k_QS T.b_QS .nil ZY (Ze (pv 1) (Ze (Xk (Zay (K:=K)) (by rfl) T.n_list boot_list (Ze (pv 2) Zj)) Zj))))
 (Zq (Zw (i:=4) ZiR (by rfl) (by first|exact Or.inl rfl|exact Or.inr rfl) (Z2 (G_QT) hr (by rfl) T.g_QT T.k_QT T.b_QT .nil ZY (Ze (pv 1) (Ze (pv 3) Zj))))
 (Zq (Z9 (PW.pt (UV (Uv (V3 (ZO (Zcz (K:=K)) (by rfl) T.n_isinstance boot_isinstance (Ze (pv 4) (Ze (JA (v:=.ty "list") (by rfl) T.n_list boot_list rfl) Zj))))) (UV (Yi (Zfm (cA:=⟨t.c,K⟩) (hr.units)) (pv 4) (pv 2) (Yp _)) (QI (Uv (V3 (Z2 (G_QP) hr (by rfl) T.g_QP T.k_QP T.b_QP .nil ZY (Ze (pv 0) (Ze (pv 3) Zj))))))))) (Zu (Z1 VM)) Yg)
 (Zq ((Yh PassesOwn.never (by rfl) (YL (K:=K) (pv 4)) (ZI (i:=5) ZiR) (Zu (Z9 (PW.pt (UV (Uv (V3 (ZO (Zcz (K:=K)) (by rfl) T.n_isinstance boot_isinstance (Ze (pv 5) (Ze (JA (v:=.ty "int") (by rfl) T.n_int boot_int rfl) Zj))))) (QI (V3 (ZO (Zcz (K:=K)) (by rfl) T.n_isinstance boot_isinstance (Ze (pv 5) (Ze (JA (v:=.ty "bool") (by rfl) T.n_bool boot_bool rfl) Zj))))))) (Zu (Z1 VM)) Yg))))
 (Zu (Z1 VM)))))),[],?_⟩
 unfold f_QQ;exact(Zr (show VS _ _ [] _ _ _ _ from(ZK 3 (Z5 [] (by rfl) (Zf (Zc 1 (by rfl)) (Zf (VF.cl (ZbM (Or.inl rfl) (Zf (Zc 2 (by rfl)) Zm))) Zm))) (by rfl) (by rfl) (by rfl) (by rfl)))
 (Zr (show VS _ _ [] _ _ _ _ from(ZK 4 (Z5 [] (by rfl) (Zf (Zc 1 (by rfl)) (Zf (Zc 3 (by rfl)) Zm))) (by rfl) (by rfl) (by rfl) (by rfl)))
 (Zr (Yd (U9 (UE (XO (ZcA (λ_ h=>h) T.isi_list (Zc 4 (by rfl))))) (U9 (Yj (Zi Zho (Zc 4 (by rfl)) (Zc 2 (by rfl)))) (UE (XO (Z5 [] (by rfl) (Zf (Zc 0 (by rfl)) (Zf (Zc 3 (by rfl)) Zm))))))) (Z4 (Zl (d:=(.bl false)) (by rfl) (by rfl))) Yk)
 (Zr (Yn (YO (Zc 4 (by rfl))) (ZR 5 (by rfl) (by rfl)) (Yd (U9 (UE (XO (ZcA (λ_ h=>h) T.isi_int (Zc 5 (by rfl))))) (XO (ZcA (λ_ h=>h) T.isi_bool (Zc 5 (by rfl))))) (Z4 (Zl (d:=(.bl false)) (by rfl) (by rfl))) Yk))
 (Z4 (Zl (d:=(.bl true)) (by rfl) (by rfl)))))))
theorem ZjN(T:Txt K mg t):FnOk P w K mg base CX0 5 t.a_QU t.d_QU ["script"] (spD ⟨t.c,K⟩ 1 Jp):=by
 have GM_QN:=(ZjA (P:=P) (w:=w) (base:=base) T).mono (k:=3) (by decide);have G_QQ:=(ZjM (P:=P) (w:=w) (base:=base) T).mono (k:=4) (by decide);have G_QG:=(ZhE (P:=P) (w:=w) (base:=base) T).mono (k:=4) (by decide);have G_QK:=(ZjB (P:=P) (w:=w) (base:=base) T).mono (k:=4) (by decide);have G_QR:=(ZjK (P:=P) (w:=w) (base:=base) T).mono (k:=4) (by decide)
 have G_QM:=(ZjI (P:=P) (w:=w) (base:=base) T).mono (k:=4) (by decide);refine YB (φ:=f_QU) T.f_QU Zjs (by conv=>lhs;whnf) (by conv=>lhs;whnf) (λcdv A outer s H E hr => ?_) rfl rfl;refine⟨_,(Zq (Zw (i:=1) Vc (by rfl) (by first|exact Or.inl rfl|exact Or.inr rfl) (Z2 (G_QK) hr (by rfl) T.g_QK T.k_QK T.b_QK .nil ZY (Ze (pv 0) (Ze Zn (Ze Zn Zj)))))
 (Zq (Uw (Z2 (G_QR) hr (by rfl) T.g_QR T.k_QR T.b_QR .nil ZY (Ze (pv 0) (Ze (pv 1) Zj))) (V7 (K:=K) (n:=4) (YV (ZI (i:=2) Vc) (YV (ZI (i:=3) Vc) (YV (ZI (i:=4) Vc) (YV (ZI (i:=5) Vc) V4))))))
 (Zq (Zw (i:=6) Vc (by rfl) (by first|exact Or.inl rfl|exact Or.inr rfl) (Zt Yo (Z2 (G_QG) hr (by rfl) T.g_QG T.k_QG T.b_QG .nil ZY (Ze (pv 0) (Ze Zn Zj))) (ZO (Z6 (K:=K)) (by rfl) T.n_len boot_len (Ze (pv 3) Zj))))
 (Zq (Zw (i:=7) Vc (by rfl) (by first|exact Or.inl rfl|exact Or.inr rfl) (Zt (Z8 (K:=K)) (pv 5) (Zt Yo (Zt Xd (Z2 (G_QG) hr (by rfl) T.g_QG T.k_QG T.b_QG .nil ZY (Ze (pv 0) (Ze Zn Zj))) Zn) Zn)))
 (Zq (Zw (i:=8) Vc (by rfl) (by first|exact Or.inl rfl|exact Or.inr rfl) (Zf0 T.mk_Table (GM_QN) hr (by rfl) T.g_Table T.b_QN .nil ZY (Ze (ZcX (UM hr.units) (Z2 (G_QM) hr (by rfl) T.g_QM T.k_QM T.b_QM .nil ZY (Ze (ZC (ZD (K:=K)) (pv 2) Zn (λ_ _=>rfl)) (Ze (ZC (ZD (K:=K)) (pv 2) Zn (λ_ _=>rfl)) Zj))) (ZC (ZD (K:=K)) (pv 3) (pv 6) (λ_ _=>rfl)) (λ_ _=>rfl)) (Ze (pv 6) (Ze (pv 7) (Ze (pv 3) (Ze (pv 4) Zj)))))))
 (Zq (Zbg (i:=9) Vc (by rfl) (by rfl) (by rfl) (CompSc.mk' (tn:=["cell"]) (cn:=["ways"]) (js:=[4]) (osc:=defScope Xp) (oN:=["script", "cells", "ground", "homes", "ways", "late", "first", "ahead", "table", "signs", "cell"]) (by rfl) (by rfl) (by rfl) (by decide +kernel)) (YL (K:=K) (U2 (U6 (K:=K)) (pv 0) (VP Zn) (VP Zn))) (λC s₂ H₂ fp=>ZI (i:=0) Zk1) (λC s₂ H₂ fp=>X1) (λC s₂ H₂ fp=>(Zt Yo (pv 0) (ZO (Z6 (K:=K)) (by rfl) T.n_len boot_len (Ze (ZC (ZD (K:=K)) (pv 1) Zn (λ_ _=>rfl)) Zj)))))
 (Zq ((Yh PassesOwn.never (by rfl) (YL (K:=K) (Yv (Ze Zn (Ze (ZC (ZD (K:=K)) (pv 1) Zn (λ_ _=>rfl)) (Ze (ZC (ZD (K:=K)) (pv 1) Zn (λ_ _=>rfl)) (Ze (ZC (ZD (K:=K)) (pv 1) Zn (λ_ _=>rfl)) Zj)))))) (ZI (i:=10) Vc) (Zu (Z9 (Uv (V3 (Z2 (G_QQ) hr (by rfl) T.g_QQ T.k_QQ T.b_QQ .nil ZY (Ze (pv 2) (Ze (pv 8) (Ze (U2 (U6 (K:=K)) (pv 9) ZcT (VP (Zt Yo (pv 10) (Zt (Z8 (K:=K)) (ZO (Z6 (K:=K)) (by rfl) T.n_len boot_len (Ze (pv 9) Zj)) Zn)))) Zj)))))) (Zu (Z1 VM)) Yg))))
 (Zu (Z1 (Z2 (G_QQ) hr (by rfl) T.g_QQ T.k_QQ T.b_QQ .nil ZY (Ze (pv 2) (Ze (pv 8) (Ze (pv 9) Zj))))))))))))),[],?_⟩
 unfold f_QU;exact(Zr (show VS _ _ [] _ _ _ _ from(ZK 1 (Z5 [] (by rfl) (Zf (Zc 0 (by rfl)) (Zf (Zl (d:=(.int 4)) (by rfl) (by rfl)) (Zf (Zl (d:=(.int 20)) (by rfl) (by rfl)) Zm)))) (by rfl) (by rfl) (by rfl) (by rfl)))
 (Zr (Zbl (Z5 [] (by rfl) (Zf (Zc 0 (by rfl)) (Zf (Zc 1 (by rfl)) Zm))) (Qe (YX 2 (by rfl) (by rfl) (YX 3 (by rfl) (by rfl) (YX 4 (by rfl) (by rfl) (YX 5 (by rfl) (by rfl) Ub))))))
 (Zr (show VS _ _ [] _ _ _ _ from(ZK 6 (Zi Ys (Z5 [] (by rfl) (Zf (Zc 0 (by rfl)) (Zf (Zl (d:=(.int 0)) (by rfl) (by rfl)) Zm))) (ZV Z7 (Zf (Zc 3 (by rfl)) Zm))) (by rfl) (by rfl) (by rfl) (by rfl)))
 (Zr (show VS _ _ [] _ _ _ _ from(ZK 7 (Zi Yl (Zc 5 (by rfl)) (Zi Ys (Zi Xe (Z5 [] (by rfl) (Zf (Zc 0 (by rfl)) (Zf (Zl (d:=(.int 0)) (by rfl) (by rfl)) Zm))) (Zl (d:=(.int 16)) (by rfl) (by rfl))) (Zl (d:=(.int 3)) (by rfl) (by rfl)))) (by rfl) (by rfl) (by rfl) (by rfl)))
 (Zr (show VS _ _ [] _ _ _ _ from(ZK 8 (Zgf (c:="Table") [] (by rfl) (Zf (Zda (Or.inl rfl) (Z5 [] (by rfl) (Zf (Zi ZE (Zc 2 (by rfl)) (Zl (d:=(.int 0)) (by rfl) (by rfl))) (Zf (Zi ZE (Zc 2 (by rfl)) (Zl (d:=(.int 1)) (by rfl) (by rfl))) Zm))) (Zi ZE (Zc 3 (by rfl)) (Zc 6 (by rfl)))) (Zf (Zc 6 (by rfl)) (Zf (Zc 7 (by rfl)) (Zf (Zc 3 (by rfl)) (Zf (Zc 4 (by rfl)) Zm)))))) (by rfl) (by rfl) (by rfl) (by rfl)))
 (Zr (show VS _ _ [] _ _ _ _ from(ZK 9 (VF.cl (XR (by rfl) (YO (Qf (Or.inl rfl) (Zc 0 (by rfl)) (VW (Zl (d:=(.int 4)) (by rfl) (by rfl))) (VW (Zl (d:=(.int 204)) (by rfl) (by rfl))))) (ZR 0 (by rfl) (by rfl)) X3 (Zi Ys (Zc 0 (by rfl)) (ZV Z7 (Zf (Zi ZE (Zc 1 (by rfl)) (Zl (d:=(.int 0)) (by rfl) (by rfl))) Zm))))) (by rfl) (by rfl) (by rfl) (by rfl)))
 (Zr (Yn (YO (VF.cl (Yw (Zf (Zl (d:=(.int 0)) (by rfl) (by rfl)) (Zf (Zi ZE (Zc 1 (by rfl)) (Zl (d:=(.int 17)) (by rfl) (by rfl))) (Zf (Zi ZE (Zc 1 (by rfl)) (Zl (d:=(.int 18)) (by rfl) (by rfl))) (Zf (Zi ZE (Zc 1 (by rfl)) (Zl (d:=(.int 19)) (by rfl) (by rfl))) Zm))))))) (ZR 10 (by rfl) (by rfl)) (Yd (UE (XO (Z5 [] (by rfl) (Zf (Zc 2 (by rfl)) (Zf (Zc 8 (by rfl)) (Zf (Qf (Or.inl rfl) (Zc 9 (by rfl)) Zc3 (VW (Zi Ys (Zc 10 (by rfl)) (Zi Yl (ZV Z7 (Zf (Zc 9 (by rfl)) Zm)) (Zl (d:=(.int 1)) (by rfl) (by rfl)))))) Zm)))))) (Z4 (Zl (d:=(.bl false)) (by rfl) (by rfl))) Yk))
 (Z4 (Z5 [] (by rfl) (Zf (Zc 2 (by rfl)) (Zf (Zc 8 (by rfl)) (Zf (Zc 9 (by rfl)) Zm))))))))))))
end
end K44
namespace K44
open DL L2
theorem ZgH(ns:List Int)(k:Nat):YD [.lst (ns.map D.int),.int k]=some (.int (ns.getD k 0)):=by
 by_cases h:k<ns.length
 · have hz : atI (ns.map D.int) (k : Int) = some (.int (ns.getD k 0)) := by
    refine QM ?_;rw [List.getElem?_map,List.getElem?_eq_getElem h,List.getD_eq_getElem?_getD,List.getElem?_eq_getElem h];rfl
   simp [YD,f_QG,h,hz,DL.run,DL.runI,Zd,sIf,ZA,Zhs,sNext,Zg,Zht,Y6,Zhu,sNever,xB,bD,YJ,Xa,xOr,Za,eC,eOp,Zkx,eOr,Zky,eIf,UF,Xx,Qa,Ua,eUn,Zkz,eNil,Zb,Zv,Yc,eCB,lenD,minD,ZkA,Zy,VY,YZ,ZF,eSl,xP,xNoP,addD,subD,Zkv,Zhp,Zkw,ZQ,ixD,isD,eBM,Xz,UJ,kind,plainKinds,XT,Qt,Zdf,ZcB,ZcC,ZcD,Zbm,Zdg,Zfx,Zfy,Zfz,List.lookup,UZ,CMul,PySem.sizeLine_eq,List.replicate]
 · have hz:ns.getD k 0=0:=by rw [List.getD_eq_getElem?_getD,List.getElem?_eq_none (by omega)];rfl
   simp [YD,f_QG,h,hz,DL.run,DL.runI,Zd,sIf,ZA,Zhs,sNext,Zg,Zht,Y6,Zhu,sNever,xB,bD,YJ,Xa,xOr,Za,eC,eOp,Zkx,eOr,Zky,eIf,UF,Xx,Qa,Ua,eUn,Zkz,eNil,Zb,Zv,Yc,eCB,lenD,minD,ZkA,Zy,VY,YZ,ZF,eSl,xP,xNoP,addD,subD,Zkv,Zhp,Zkw,ZQ,ixD,isD,eBM,Xz,UJ,kind,plainKinds,XT,Qt,Zdf,ZcB,ZcC,ZcD,Zbm,Zdg,Zfx,Zfy,Zfz,List.lookup,UZ,CMul,PySem.sizeLine_eq,List.replicate]
abbrev nD(a:Nat):D := .int (a:Int)
abbrev AD(l:List Nat):D := .lst (l.map nD)
abbrev IL(w:List Int):D := .lst (w.map D.int)
theorem XF{ε:DL.Env->Option D}{δ:DL.Env}{xs:List D}(h:ε δ=some (.lst xs)):ZJ ε δ=some xs:=by
 unfold ZJ;rw [h]
theorem ZaH{ε:DL.Env->Option D}{δ:DL.Env}{xs:List D}(h:ε δ=some (.tup xs)):ZJ ε δ=some xs:=by
 unfold ZJ;rw [h]
theorem Yt{i j:Int}(h0:0<j):modW (.int i) (.int j)=some (.int (i.fmod j)):=ZgB (by omega)
theorem Xq{i j:Int}(h0:0<j)(h1:j<=1000000):fdivW (.int i) (.int j)=some (.int (i.fdiv j)):=ZeV (by omega) (Zi7 (by
 have:j.natAbs<=1000000:=by omega
 exact Nat.le_trans this (by decide +kernel)))
theorem ZcG(i j:Int):subD (.int i) (.int j)=some (.int (i-j)):=rfl
theorem Zif(n:Nat):Yr 0 1 n=(List.range n).map nD:=by
 unfold Yr;refine List.map_congr_left λk _=>congrArg D.int ?_
 omega
theorem Xg{α:DL.Env->Option (List D)}{δ:DL.Env}{m:Nat}(h:α δ=some [.int (m:Int)])(hm:m<=100000):ZH α δ=some ((List.range m).map nD):=by
 rw [<-Zif];exact(Zid (j:=(m:Int)) h (by omega) (by omega)).trans (by rw [Int.toNat_natCast])
theorem YK(i:Int){m:Nat}(h:0<m):∃a:Nat,i.fmod (m:Int)=(a:Int)/\a<m:=by
 obtain⟨b0,b1⟩:=ZgC (a:=i) (b:=(m:Int)) (by omega);obtain⟨a,ha⟩:=ZfA b0;exact⟨a,ha,by omega⟩
theorem Zbn{i:Nat}{κ ε:DL.Env->Option D}{δ:DL.Env}{xs:List D}{k:Nat}{x:D}(hk:k<xs.length)(hv:Za i δ=some (.lst xs))(h1:κ δ=some (nD k))(h2:ε δ=some x):XS i κ ε δ=some (.nx (δ.set i (some (.lst (xs.set k x))))):=by
 unfold XS;rw [h2,hv,h1];dsimp only;rw [ZgF hk]
theorem XZ{α:Type}{γ:D->DL.Env->Option DL.Env}{ε:DL.Env->Option D}{δ0:DL.Env}(g f:α->D):∀(xs:List α),(∀x∈xs,∃δ1,γ (g x) δ0=some δ1/\ε δ1=some (f x))->ZZ γ (λ_=>some true) ε δ0 (xs.map g)=some (xs.map f)
 | [],_=>rfl
 |x::xs,h=>by
  obtain⟨δ1,h1,h2⟩:=h x List.mem_cons_self;rw [List.map_cons,List.map_cons];unfold ZZ;rw [h1];dsimp only;rw [h2,XZ g f xs λy hy=>h y (List.mem_cons_of_mem _ hy)]
theorem Zal{α:Type}{γ:D->DL.Env->Option DL.Env}{τ:DL.Env->Option Bool}{ε:DL.Env->Option D}{δ0:DL.Env}(g f:α->D)(p:α->Bool):∀(xs:List α),(∀x∈xs,∃δ1,γ (g x) δ0=some δ1/\τ δ1=some (p x)/\ε δ1=some (f x))->ZZ γ τ ε δ0 (xs.map g)=some ((xs.filter p).map f)
 | [],_=>rfl
 |x::xs,h=>by
  obtain⟨δ1,h1,h2,h3⟩:=h x List.mem_cons_self;have ih:=Zal g f p xs λy hy=>h y (List.mem_cons_of_mem _ hy)
  rw [List.map_cons];unfold ZZ;rw [h1];dsimp only;rw [h2];cases hp:p x with
  |false=>
   rw [List.filter_cons_of_neg (by rw [hp];exact Bool.false_ne_true)];exact ih
  |true=>
   rw [List.filter_cons_of_pos hp,List.map_cons];dsimp only;rw [h3,ih]
noncomputable def fo1:DL.Env->Option D:=(eOp addX (eOp mulX (Za 0) (Za 0)) (Za 0))
noncomputable def fo2:DL.Env->Option Out:=(Zg 5 (eOp modW (eOp subD (Za 4) (Za 1)) (Za 2)))
noncomputable def fo3:DL.Env->Option D:=(eOp modW (eOp addX (eOp mulX (eOp ixD (Za 3) (Za 5)) (eC (.int 31))) (eOp ixD (Za 0) (Za 4))) (eC (.int 1000000000039)))
theorem Zea:f_QK=Zd (Zg 3 (ZT (ZH (Zb (Za 2) eNil)) (Zo 0) (λ_=>some true) fo1 1 [])) (Zd (ZB (ZH (Zb (Za 1) (Zb (eCB lenD (Zb (Za 0) eNil)) eNil))) (Zo 4) (Zd fo2 (XS 3 (Za 5) fo3))) (ZA (Za 3))):=rfl
abbrev FE(ns:List Int)(v3 v4 v5:Option D):DL.Env:=[some (IL ns),some (.int 4),some (.int 20),v3,v4,v5]
theorem Zig(ns:List Int)(hl:ns.length<=63):∃cs:List Int,cs.length=20/\Qz [IL ns,.int 4,.int 20]=some (IL cs):=by
 have hc:ZZ (Zo 0) (λ_=>some true) fo1 [none] ((List.range 20).map nD)=some ((List.range 20).map λk:Nat=>D.int ((k:Int)*k+k)):=XZ nD _ _ λk hk=>⟨[some (nD k)],rfl,(Zk (y:=nD k) ((Zk (x:=nD k) (y:=nD k) rfl rfl).trans (Ul (by omega) (by have:=List.mem_range.mp hk;omega))) rfl).trans (add_int _ _)⟩
 have t1:Zg 3 (ZT (ZH (Zb (Za 2) eNil)) (Zo 0) (λ_=>some true) fo1 1 []) (FE ns none none none)=some (.nx (FE ns (some (IL ((List.range 20).map λk:Nat=>(k:Int)*k+k))) none none)):=by
  refine Zz ((XU (Xg (m:=20) rfl (by decide)) rfl hc (by rw [List.length_map,List.length_range];decide)).trans ?_);rw [IL,List.map_map];rfl
 obtain⟨δ',g,cs,v4,v5,e,hcs⟩:=Q7 (γ:=Zo 4) (φ:=Zd fo2 (XS 3 (Za 5) fo3)) (λδ=>∃cs v4 v5,δ=FE ns (some (IL cs)) v4 v5/\cs.length=20) (Yr 4 1 ((ns.length:Int)-4).toNat) (FE ns (some (IL ((List.range 20).map λk:Nat=>(k:Int)*k+k))) none none) ⟨_,_,_,rfl,by simp⟩ (by
  rintro x hx δ ⟨cs,v4,v5,rfl,hcs⟩
  obtain⟨k,hk,rfl⟩:=ZgA hx;have hk3:4+k<ns.length:=by omega
  rw [show D.int (4+(k:Int)*1)=nD (4+k)from congrArg D.int (by omega)];obtain⟨a,ha,hal⟩:=YK (((4+k:Nat):Int)-4) (m:=20) (by decide);have tA:fo2 (FE ns (some (IL cs)) (some (nD (4+k))) v5)=some (.nx (FE ns (some (IL cs)) (some (nD (4+k))) (some (nD a)))):=Zz ((Zk (y:=.int 20) ((Zk (x:=nD (4+k)) (y:=.int 4) rfl rfl).trans (ZcG _ _)) rfl).trans ((Yt (by decide)).trans (congrArg (λz=>some (D.int z)) (show(((4+k:Nat):Int)-4).fmod 20=(a:Int)from ha))))
  have eV:fo3 (FE ns (some (IL cs)) (some (nD (4+k))) (some (nD a)))=some (.int ((cs.getD a 0*31+ns.getD (4+k) 0).fmod 1000000000039)):=(Zk (y:=.int 1000000000039) ((Zk ((Zk (y:=.int 31) ((Zk (x:=IL cs) (y:=nD a) rfl rfl).trans (Q9 (by omega))) rfl).trans (Ul (by omega) (by omega))) ((Zk (x:=IL ns) (y:=nD (4+k)) rfl rfl).trans (Q9 hk3))).trans (add_int _ _)) rfl).trans (Yt (by decide))
  generalize (cs.getD a 0*31+ns.getD (4+k) 0).fmod 1000000000039=y at eV;refine⟨FE ns (some (IL cs)) (some (nD (4+k))) v5,rfl,FE ns (some (IL (cs.set a y))) (some (nD (4+k))) (some (nD a)),?_,_,_,_,rfl,by rw [List.length_set];exact hcs⟩;rw [Zp tA];refine(Zbn (xs:=cs.map D.int) (k:=a) (by rw [List.length_map];omega) rfl rfl eV).trans ?_;have:(cs.map D.int).set a (D.int y)=(cs.set a y).map D.int:=by rw [List.map_set]
  rw [this];rfl)
 subst e;refine⟨cs,hcs,Yz (δ:=FE ns none none none) rfl ?_⟩;have hi:ZH (Zb (Za 1) (Zb (eCB lenD (Zb (Za 0) eNil)) eNil)) (FE ns (some (IL ((List.range 20).map λk:Nat=>(k:Int)*k+k))) none none)=some (Yr 4 1 ((ns.length:Int)-4).toNat):=Zie (i:=4) (j:=(ns.length:Int)) (Zh (x:=.int 4) rfl (Zh ((ZN (Zh (x:=IL ns) rfl nil_of)).trans (len_lst.trans (by rw [List.length_map]))) nil_of)) (by omega) (by omega) (by omega) (by omega)
 rw [Zea,Zp t1,Zp (Ym hi g)];exact Yx rfl
def SG:List Nat:=[97,98,99,100,101,102,103,104,105,106,107,108,109,110,111,112,113,114,115,116,117,118,119,120,121,122,48,49,50,51,52,53,54,55,56,57]
def mk1(c:Int)(k:Nat):Nat:=SG.getD ((c+5*k).fmod 36).toNat 0
def mks(c:Int)(m:Nat):List Nat:=(List.range m).map (mk1 c)
noncomputable def mkE:DL.Env->Option D:=(eOp ixD (Za 1) (eOp modW (eOp addX (Za 2) (eOp mulX (eC (.int 5)) (Za 0))) (eCB lenD (Zb (Za 1) eNil))))
theorem ZeZ:f_QO=Zd (Zg 2 (eC (.str SG))) (ZA (eBM joinD (eC (.str [])) (Zb (ZT (ZH (Zb (Za 1) eNil)) (Zo 0) (λ_=>some true) mkE 1 [2,0]) eNil))):=rfl
theorem ZjO:∀a,a<36->SG[a]? = some (SG.getD a 0):=by decide
theorem Zih:∀a,a<36->∀b,b<36->SG.getD a 0=SG.getD b 0->a=b:=by decide
theorem ZgI:∀a,a<36->SG.getD a 0<1114112:=by decide
theorem Zb0(c:Int)(m:Nat)(hm:m<=3):UO [.int c,nD m]=some (.str (mks c m)):=by
 have hc:ZZ (Zo 0) (λ_=>some true) mkE [none,some (.str SG),some (.int c)] ((List.range m).map nD)=some ((List.range m).map λk=>D.str [mk1 c k]):=XZ nD _ _ λk hk=>⟨[some (nD k),some (.str SG),some (.int c)],rfl,by
  obtain⟨a,ha,hal⟩:=YK (c+5*k) (m:=36) (by decide);have ha':(c+5*(k:Int)).fmod 36=(a:Int):=ha;have e1:eOp modW (eOp addX (Za 2) (eOp mulX (eC (.int 5)) (Za 0))) (eCB lenD (Zb (Za 1) eNil)) [some (nD k),some (.str SG),some (.int c)]=some (nD a):=(Zk (x:=.int (c+5*(k:Int))) (y:=.int 36) ((Zk (x:=.int c) rfl ((Zk (x:=.int 5) (y:=nD k) rfl rfl).trans (Ul (by omega) (by have:=List.mem_range.mp hk;omega)))).trans (add_int _ _)) ((ZN (Zh (x:=.str SG) rfl nil_of)).trans ((len_str (by decide)).trans rfl))).trans ((Yt (by decide)).trans (by rw [ha']))
  refine(Zk (x:=.str SG) rfl e1).trans ((ix_str (ZjO a hal) (by decide)).trans ?_);unfold mk1;rw [ha',Int.toNat_natCast]⟩
 refine Yz (δ:=[some (.int c),some (nD m),none]) rfl ?_;have t1:Zg 2 (eC (.str SG)) [some (.int c),some (nD m),none]=some (.nx [some (.int c),some (nD m),some (.str SG)]):=rfl;rw [ZeZ,Zp t1];refine Yx ((Q8 (s:=[]) rfl (Zh (XU (Xg (m:=m) rfl (by omega)) rfl hc (by rw [List.length_map,List.length_range];omega)) nil_of)).trans ?_);exact Zd8 (mk1 c) (List.range m) (by rw [List.length_range,PySem.sizeLine_eq];omega)
theorem Zdj(c:Int)(m:Nat):(mks c m).length=m:=by unfold mks;simp
theorem ZcH(c:Int)(k:Nat):∃a:Nat,a<36/\((c+5*k).fmod 36)=(a:Int)/\mk1 c k=SG.getD a 0:=by
 obtain⟨a,ha,hal⟩:=YK (c+5*k) (m:=36) (by decide);have ha':(c+5*(k:Int)).fmod 36=(a:Int):=ha;exact⟨a,hal,ha',by unfold mk1;rw [ha',Int.toNat_natCast]⟩
theorem ZfB(c:Int){m:Nat}(hm:m<=3):(mks c m).Nodup:=by
 unfold mks;refine List.pairwise_map.mpr (List.pairwise_lt_range.imp_of_mem λ{a b} ha hb hab e => ?_);have:=List.mem_range.mp hb;obtain⟨x,hx,ex,e1⟩:=ZcH c a;obtain⟨y,hy,ey,e2⟩:=ZcH c b;rw [e1,e2]at e;have:=Zih x hx y hy e;subst this;rw [<-ey]at ex;rw [Int.fmod_eq_emod_of_nonneg _ (by decide),Int.fmod_eq_emod_of_nonneg _ (by decide)]at ex;omega
theorem Zb1(c:Int)(m:Nat):Vs (mks c m):=λx hx=>by
 unfold mks at hx;obtain⟨k,_,rfl⟩:=List.mem_map.mp hx;obtain⟨a,hal,_,e⟩:=ZcH c k;rw [e];exact ZgI a hal
end K44
namespace K44
open DL L2
theorem Zii{a b:DL.Env->Option Bool}{δ:DL.Env}{x y:Bool}(h1:a δ=some x)(h2:b δ=some y):xOr a b δ=some (x||y):=by
 cases x with
 |true=>exact Zgz h1
 |false=>exact Qu h1 h2
theorem ZgJ{a b:DL.Env->Option Bool}{δ:DL.Env}{x y:Bool}(h1:a δ=some x)(h2:b δ=some y):Xa a b δ=some (x&&y):=by
 cases x with
 |true=>exact ZbY h1 h2
 |false=>exact Zdi h1
abbrev Gw:=List (List (Option Nat))
def gat(gw:Gw)(r k:Nat):Option Nat:=(gw.getD r []).getD k none
def wyD:Option Nat->D
 |none => .non
 |some t=>nD t
def grD(row:List (Option Nat)):D := .tup (row.map wyD)
def gwD(gw:Gw):D := .tup (gw.map grD)
abbrev gD(mk:List Nat)(gw:Gw)(x:Int):D := .tup [.str mk,gwD gw,.int x]
structure GOk(mk:List Nat)(gw:Gw):Prop where
 nd:mk.Nodup
 m1:1<=mk.length
 m3:mk.length<=3
 cd:Vs mk
 r1:1<=gw.length
 r4:gw.length<=4
 row:∀r∈gw,r.length=mk.length
 lt:∀r k t,gat gw r k=some t->t<gw.length
 cyc:∀r,r<gw.length->∃k,k<mk.length/\gat gw r k=some ((r+1) % gw.length)
theorem Zdk{R M:Nat}(f:Nat->Nat->Option Nat){r k:Nat}:gat ((List.range R).map λr=>(List.range M).map (f r)) r k=if r<R/\k<M then f r k else none:=by
 unfold gat
 by_cases hr:r<R
 · have e : (((List.range R).map fun r => (List.range M).map (f r)).getD r []) = (List.range M).map (f r) := by
    rw [List.getD_eq_getElem?_getD,List.getElem?_map,List.getElem?_range hr];rfl
   rw [e,List.getD_eq_getElem?_getD,List.getElem?_map]
   by_cases hk:k<M
   · rw [List.getElem?_range hk,if_pos ⟨hr,hk⟩];rfl
   · rw [List.getElem?_eq_none (by simpa using hk),if_neg λz=>hk z.2];rfl
 · have e : (((List.range R).map fun r => (List.range M).map (f r)).getD r []) = [] := by
    rw [List.getD_eq_getElem?_getD,List.getElem?_eq_none (by simpa using hr)];rfl
   rw [e,if_neg λz=>hr z.1];rfl
def lwP(c:Int)(m r k:Nat):Bool:=decide (0<(c.fdiv (3*r+k+1)).fmod 3)||decide ((k:Int)=((r+1:Nat):Int).fmod m)
def lwF(c:Int)(m r k:Nat):Option Nat:=if lwP c m r k=true then some k else none
def YE(c:Int)(m r j:Nat):List (Option Nat):=(List.range j).map (lwF c m r)
def YF(c:Int)(m i:Nat):Gw:=(List.range i).map λr=>YE c m r m
noncomputable def lwT:DL.Env->Option Bool:=(xOr (xB (eOp (ZQ λi j=>decide (j<i)) (eOp modW (eOp fdivW (Za 0) (eOp addX (eOp addX (eOp mulX (eC (.int 3)) (Za 3)) (Za 5)) (eC (.int 1)))) (eC (.int 3))) (eC (.int 0)))) (xB (eOp eqD (Za 5) (eOp modW (eOp addX (Za 3) (eC (.int 1))) (Za 1)))))
noncomputable def lwI:DL.Env->Option Out:=(sIf lwT (ZW 4 (Za 5)) (ZW 4 (eC .non)))
noncomputable def lwB:DL.Env->Option Out:=(Zd (Zg 4 (Zv eNil)) (Zd (ZB (ZH (Zb (Za 1) eNil)) (Zo 5) lwI) (ZW 2 (eCB Z0 (Zb (Za 4) eNil)))))
theorem ZgK:f_QB=Zd (Zg 2 (Zv eNil)) (Zd (ZB (ZH (Zb (Za 1) eNil)) (Zo 3) lwB) (ZA (eCB Z0 (Zb (Za 2) eNil)))):=rfl
abbrev WE(c:Int)(m:Nat)(v2 v3 v4 v5:Option D):DL.Env:=[some (.int c),some (nD m),v2,v3,v4,v5]
theorem ZgL(c:Int){m r:Nat}(hm:m<=3)(h1:1<=m)(hr:r<m)(v2 v5:Option D):∃w5,ZB (ZH (Zb (Za 1) eNil)) (Zo 5) lwI (WE c m v2 (some (nD r)) (some (.lst [])) v5)=some (.nx (WE c m v2 (some (nD r)) (some (.lst ((YE c m r m).map wyD))) w5)):=by
 obtain⟨δ',g,w5,e⟩:=Y0 (γ:=Zo 5) (φ:=lwI) (λk δ=>∃w5,δ=WE c m v2 (some (nD r)) (some (.lst ((YE c m r k).map wyD))) w5) ((List.range m).map nD) 0 (WE c m v2 (some (nD r)) (some (.lst [])) v5) ⟨v5,rfl⟩ (by
  rintro k x δ hx ⟨w5,rfl⟩
  have hk:k<m:=by
   have:=(List.getElem?_eq_some_iff.mp hx).1
   rwa [List.length_map,List.length_range]at this
  rw [List.getElem?_map,List.getElem?_range hk]at hx;cases hx;rw [Nat.zero_add];have e1:eOp addX (eOp addX (eOp mulX (eC (.int 3)) (Za 3)) (Za 5)) (eC (.int 1)) (WE c m v2 (some (nD r)) (some (.lst ((YE c m r k).map wyD))) (some (nD k)))=some (.int (3*r+k+1)):=(Zk (y:=.int 1) ((Zk (y:=nD k) ((Zk (x:=.int 3) (y:=nD r) rfl rfl).trans (Ul (by omega) (by omega))) rfl).trans (add_int _ _)) rfl).trans (add_int _ _)
  have et:lwT (WE c m v2 (some (nD r)) (some (.lst ((YE c m r k).map wyD))) (some (nD k)))=some (lwP c m r k):=Zii (ZX ((Zk (y:=.int 0) ((Zk (y:=.int 3) ((Zk (x:=.int c) rfl e1).trans (Xq (by omega) (by omega))) rfl).trans (Yt (by decide))) rfl).trans rfl)) (ZX ((Zk (x:=nD k) (y:=.int (((r+1:Nat):Int).fmod m)) rfl ((Zk (y:=nD m) ((Zk (x:=nD r) (y:=.int 1) rfl rfl).trans (add_int _ _)) rfl).trans ((Yt (by omega)).trans (by rw [Int.natCast_add];rfl)))).trans (XT _ _)))
  have es:(YE c m r (k+1)).map wyD=(YE c m r k).map wyD++[wyD (lwF c m r k)]:=by
   unfold YE;rw [List.range_succ,List.map_append,List.map_append];rfl
  have hl:((YE c m r k).map wyD).length<=1000000:=by unfold YE;simp;omega
  refine⟨WE c m v2 (some (nD r)) (some (.lst ((YE c m r k).map wyD))) (some (nD k)),rfl,WE c m v2 (some (nD r)) (some (.lst ((YE c m r (k+1)).map wyD))) (some (nD k)),?_,_,rfl⟩;rw [es];unfold lwI lwF;cases hp:lwP c m r k with
  |true=>
   rw [hp]at et;exact(Y7 et).trans ((XE (xs:=(YE c m r k).map wyD) rfl rfl hl).trans rfl)
  |false=>
   rw [hp]at et;exact(Ye et).trans ((XE (xs:=(YE c m r k).map wyD) rfl rfl hl).trans rfl))
 subst e;rw [List.length_map,List.length_range,Nat.zero_add]at g;exact⟨w5,Ym (Xg (m:=m) rfl (by omega)) g⟩
theorem ZgM(c:Int){m:Nat}(hm:m<=3)(h1:1<=m):Jg [.int c,nD m]=some (gwD (YF c m m)):=by
 obtain⟨δ',g,w3,w4,w5,e⟩:=Y0 (γ:=Zo 3) (φ:=lwB) (λr δ=>∃w3 w4 w5,δ=WE c m (some (.lst ((YF c m r).map grD))) w3 w4 w5) ((List.range m).map nD) 0 (WE c m (some (.lst [])) none none none) ⟨none,none,none,rfl⟩ (by
  rintro r x δ hx ⟨w3,w4,w5,rfl⟩
  have hr:r<m:=by
   have:=(List.getElem?_eq_some_iff.mp hx).1
   rwa [List.length_map,List.length_range]at this
  rw [List.getElem?_map,List.getElem?_range hr]at hx;cases hx;rw [Nat.zero_add];obtain⟨y5,hf⟩:=ZgL c hm h1 hr (some (.lst ((YF c m r).map grD))) w5;have t1:Zg 4 (Zv eNil) (WE c m (some (.lst ((YF c m r).map grD))) (some (nD r)) w4 w5)=some (.nx (WE c m (some (.lst ((YF c m r).map grD))) (some (nD r)) (some (.lst [])) w5)):=Zz (Yy nil_of (by show 0<=1000;decide))
  have es:(YF c m (r+1)).map grD=(YF c m r).map grD++[grD (YE c m r m)]:=by
   unfold YF;rw [List.range_succ,List.map_append,List.map_append];rfl
  refine⟨WE c m (some (.lst ((YF c m r).map grD))) (some (nD r)) w4 w5,rfl,WE c m (some (.lst ((YF c m (r+1)).map grD))) (some (nD r)) (some (.lst ((YE c m r m).map wyD))) y5,?_,_,_,_,rfl⟩;unfold lwB;rw [Zp t1,Zp hf,es];exact(XE (xs:=(YF c m r).map grD) (d:=grD (YE c m r m)) rfl ((ZN (Zh (x:=.lst ((YE c m r m).map wyD)) rfl nil_of)).trans rfl) (by unfold YF;simp;omega)).trans rfl)
 subst e;rw [List.length_map,List.length_range,Nat.zero_add]at g;refine Yz (δ:=WE c m none none none none) rfl ?_;have t1:Zg 2 (Zv eNil) (WE c m none none none none)=some (.nx (WE c m (some (.lst [])) none none none)):=Zz (Yy nil_of (by show 0<=1000;decide));rw [ZgK,Zp t1,Zp (Ym (Xg (m:=m) rfl (by omega)) g)];exact Yx ((ZN (Zh (x:=.lst ((YF c m m).map grD)) rfl nil_of)).trans rfl)
theorem Zij(c d:Int){m:Nat}(hm:m<=3)(h1:1<=m):GOk (mks d m) (YF c m m):=by
 have hR:(YF c m m).length=m:=by unfold YF;simp
 have ga:∀r k,gat (YF c m m) r k=if r<m/\k<m then lwF c m r k else none:=λr k=>Zdk (lwF c m)
 have hM:=Zdj d m;refine⟨ZfB d hm,by omega,by omega,Zb1 d m,by omega,by omega,λr hr => ?_,λr k t e => ?_,λr hr => ?_⟩
 · obtain⟨k,_,rfl⟩:=List.mem_map.mp hr
   unfold YE;simp [hM]
 · rw [ga]at e
   split at e
   · rename_i h
     unfold lwF at e
     split at e
     · cases e;omega
     · cases e
   · cases e
 · rw [hR]at hr ⊢
   have hk:(r+1) % m<m:=Nat.mod_lt _ (by omega);refine⟨(r+1) % m,by omega,?_⟩;rw [ga,if_pos ⟨hr,hk⟩];unfold lwF;rw [if_pos];unfold lwP;rw [Bool.or_eq_true];right;refine decide_eq_true ?_;rw [Int.fmod_eq_emod_of_nonneg _ (by omega)];omega
def gpF(f s r k:Nat):Option Nat:=if k=0 then(if r=s then none else some (r+1))else if r<f then none else some 0
def Y3(f s i:Nat):Gw:=(List.range i).map λr=>(List.range 2).map (gpF f s r)
noncomputable def gp1:DL.Env->Option Out:=(Zg 4 (Zv (Zb (eOp addX (Za 3) (eC (.int 1))) (Zb (eC (.int 0)) eNil))))
noncomputable def gp2:DL.Env->Option Out:=(sIf (xB (eOp eqD (Za 3) (Za 1))) (XS 4 (eC (.int 0)) (eC .non)) sNext)
noncomputable def gp3:DL.Env->Option Out:=(sIf (xB (eOp (ZQ λi j=>decide (i<j)) (Za 3) (Za 0))) (XS 4 (eC (.int 1)) (eC .non)) sNext)
noncomputable def gp4:DL.Env->Option Out:=(ZW 2 (eCB Z0 (Zb (Za 4) eNil)))
theorem Zik:f_QD=Zd (Zg 2 (Zv eNil)) (Zd (ZB (ZH (Zb (eOp addX (Za 1) (eC (.int 1))) eNil)) (Zo 3) (Zd gp1 (Zd gp2 (Zd gp3 gp4)))) (ZA (eCB Z0 (Zb (Za 2) eNil)))):=rfl
abbrev PE5(f s:Nat)(v2 v3 v4:Option D):DL.Env:=[some (nD f),some (nD s),v2,v3,v4]
theorem Zil{f s:Nat}(hs:s<=3):Jh [nD f,nD s]=some (gwD (Y3 f s (s+1))):=by
 obtain⟨δ',g,w3,w4,e⟩:=Y0 (γ:=Zo 3) (φ:=Zd gp1 (Zd gp2 (Zd gp3 gp4))) (λr δ=>∃w3 w4,δ=PE5 f s (some (.lst ((Y3 f s r).map grD))) w3 w4) ((List.range (s+1)).map nD) 0 (PE5 f s (some (.lst [])) none none) ⟨none,none,rfl⟩ (by
  rintro r x δ hx ⟨w3,w4,rfl⟩
  have hr:r<s+1:=by
   have:=(List.getElem?_eq_some_iff.mp hx).1
   rwa [List.length_map,List.length_range]at this
  rw [List.getElem?_map,List.getElem?_range hr]at hx;cases hx;rw [Nat.zero_add];generalize hX:(some (D.lst ((Y3 f s r).map grD)):Option D)=X;have t1:gp1 (PE5 f s X (some (nD r)) w4)=some (.nx (PE5 f s X (some (nD r)) (some (.lst [nD (r+1),.int 0])))):=Zz (Yy (Zh ((Zk (x:=nD r) (y:=.int 1) rfl rfl).trans (add_int _ _)) (Zh (x:=.int 0) rfl nil_of)) (by show 2<=1000;decide))
  have t2:gp2 (PE5 f s X (some (nD r)) (some (.lst [nD (r+1),.int 0])))=some (.nx (PE5 f s X (some (nD r)) (some (.lst [wyD (gpF f s r 0),.int 0])))):=by
   have et:xB (eOp eqD (Za 3) (Za 1)) (PE5 f s X (some (nD r)) (some (.lst [nD (r+1),.int 0])))=some (decide ((r:Int)=s)):=ZX ((Zk (x:=nD r) (y:=nD s) rfl rfl).trans (XT _ _))
   by_cases h:r=s
   · rw [decide_eq_true (by omega)]at et
     refine(Y7 et).trans ((Zbn (xs:=[nD (r+1),.int 0]) (k:=0) (by show 0<2;decide) rfl rfl rfl).trans ?_);unfold gpF;rw [if_pos rfl,if_pos h];rfl
   · rw [decide_eq_false (by omega)]at et
     refine(Ye et).trans ?_;unfold gpF;rw [if_pos rfl,if_neg h];rfl
  have t3:gp3 (PE5 f s X (some (nD r)) (some (.lst [wyD (gpF f s r 0),.int 0])))=some (.nx (PE5 f s X (some (nD r)) (some (.lst [wyD (gpF f s r 0),wyD (gpF f s r 1)])))):=by
   have et:xB (eOp (ZQ λi j=>decide (i<j)) (Za 3) (Za 0)) (PE5 f s X (some (nD r)) (some (.lst [wyD (gpF f s r 0),.int 0])))=some (decide ((r:Int)<f)):=ZX ((Zk (x:=nD r) (y:=nD f) rfl rfl).trans rfl)
   by_cases h:r<f
   · rw [decide_eq_true (by omega)]at et
     refine(Y7 et).trans ((Zbn (xs:=[wyD (gpF f s r 0),.int 0]) (k:=1) (by show 1<2;decide) rfl rfl rfl).trans ?_);have:gpF f s r 1=none:=by unfold gpF;rw [if_neg (by decide),if_pos h]
     rw [this];rfl
   · rw [decide_eq_false (by omega)]at et
     refine(Ye et).trans ?_;have:gpF f s r 1=some 0:=by unfold gpF;rw [if_neg (by decide),if_neg h]
     rw [this];rfl
  have es:(Y3 f s (r+1)).map grD=(Y3 f s r).map grD++[grD ((List.range 2).map (gpF f s r))]:=by
   unfold Y3;rw [List.range_succ (n:=r),List.map_append,List.map_append];rfl
  refine⟨PE5 f s X (some (nD r)) w4,rfl,PE5 f s (some (.lst ((Y3 f s (r+1)).map grD))) (some (nD r)) (some (.lst [wyD (gpF f s r 0),wyD (gpF f s r 1)])),?_,_,_,rfl⟩;rw [Zp t1,Zp t2,Zp t3,es];subst hX;exact(XE (xs:=(Y3 f s r).map grD) (d:=grD ((List.range 2).map (gpF f s r))) rfl ((ZN (Zh (x:=.lst [wyD (gpF f s r 0),wyD (gpF f s r 1)]) rfl nil_of)).trans rfl) (by unfold Y3;simp;omega)).trans rfl)
 subst e;rw [List.length_map,List.length_range,Nat.zero_add]at g;refine Yz (δ:=PE5 f s none none none) rfl ?_;have t1:Zg 2 (Zv eNil) (PE5 f s none none none)=some (.nx (PE5 f s (some (.lst [])) none none)):=Zz (Yy nil_of (by show 0<=1000;decide));have hi:ZH (Zb (eOp addX (Za 1) (eC (.int 1))) eNil) (PE5 f s (some (.lst [])) none none)=some ((List.range (s+1)).map nD):=Xg (Zh ((Zk (x:=nD s) (y:=.int 1) rfl rfl).trans (add_int _ _)) nil_of) (by omega)
 rw [Zik,Zp t1,Zp (Ym hi g)];exact Yx ((ZN (Zh (x:=.lst ((Y3 f s (s+1)).map grD)) rfl nil_of)).trans rfl)
theorem ZjP(d:Int){f s:Nat}(hf:f<=s)(hs:s<=3):GOk (mks d 2) (Y3 f s (s+1)):=by
 have hR:(Y3 f s (s+1)).length=s+1:=by unfold Y3;simp
 have ga:∀r k,gat (Y3 f s (s+1)) r k=if r<s+1/\k<2 then gpF f s r k else none:=λr k=>Zdk (gpF f s)
 have hM:=Zdj d 2;refine⟨ZfB d (by decide),by omega,by omega,Zb1 d 2,by omega,by omega,λr hr => ?_,λr k t e => ?_,λr hr => ?_⟩
 · obtain⟨k,_,rfl⟩:=List.mem_map.mp hr
   simp [hM]
 · rw [ga]at e
   split at e
   · rename_i h
     unfold gpF at e
     split at e
     · split at e
       · cases e
       · cases e;omega
     · split at e
       · cases e
       · cases e;omega
   · cases e
 · rw [hR]at hr ⊢
   by_cases h:r=s
   · refine⟨1,by omega,?_⟩
     rw [ga,if_pos ⟨hr,by decide⟩];unfold gpF;rw [if_neg (by decide),if_neg (by omega),h,Nat.mod_self]
   · refine⟨0,by omega,?_⟩
     rw [ga,if_pos ⟨hr,by decide⟩];unfold gpF;rw [if_pos rfl,if_neg h,Nat.mod_eq_of_lt (by omega)]
noncomputable def gr1:DL.Env->Option Out:=(Zg 2 (eOp addX (eC (.int 2)) (eOp modW (eOp fdivW (Za 0) (eC (.int 2))) (eC (.int 2)))))
noncomputable def gr2:DL.Env->Option D:=(Yc (Zb (Zy 2 UO [] (Zb (Za 1) (Zb (Za 2) eNil))) (Zb (Zy 2 Jg [] (Zb (eOp fdivW (Za 0) (eC (.int 4))) (Zb (Za 2) eNil))) (Zb (eC (.int 1)) eNil))))
noncomputable def gr3:DL.Env->Option Out:=(Zg 3 (eOp modW (eOp fdivW (Za 0) (eC (.int 2))) (eC (.int 4))))
noncomputable def gr4:DL.Env->Option D:=(Yc (Zb (Zy 2 UO [] (Zb (Za 1) (Zb (eC (.int 2)) eNil))) (Zb (Zy 2 Jh [] (Zb (eOp modW (eOp fdivW (Za 0) (eC (.int 8))) (eOp addX (Za 3) (eC (.int 1)))) (Zb (Za 3) eNil))) (Zb (Za 3) eNil))))
noncomputable def grT:DL.Env->Option Bool:=(xB (eOp eqD (eOp modW (Za 0) (eC (.int 2))) (eC (.int 0))))
theorem Za6:f_QL=Zd (sIf grT (Zd gr1 (ZA gr2)) sNext) (Zd gr3 (ZA gr4)):=rfl
theorem Zeb(c d:Int):∃mk gw x,GOk mk gw/\Ji [.int c,.int d]=some (gD mk gw x):=by
 have et:grT [some (.int c),some (.int d),none,none]=some (decide (c.fmod 2=0)):=ZX ((Zk (y:=.int 0) ((Zk (x:=.int c) (y:=.int 2) rfl rfl).trans (Yt (by decide))) rfl).trans (XT _ _))
 by_cases hz:c.fmod 2=0
 · obtain⟨a,ha,hal⟩:=YK (c.fdiv 2) (m:=2) (by decide)
   have ha':(c.fdiv 2).fmod 2=(a:Int):=ha;refine⟨mks d (2+a),YF (c.fdiv 4) (2+a) (2+a),1,Zij _ _ (by omega) (by omega),Yz (δ:=[some (.int c),some (.int d),none,none]) rfl ?_⟩;rw [decide_eq_true hz]at et;have t1:gr1 [some (.int c),some (.int d),none,none]=some (.nx [some (.int c),some (.int d),some (nD (2+a)),none]):=Zz ((Zk (x:=.int 2) (y:=.int ((c.fdiv 2).fmod 2)) rfl ((Zk (y:=.int 2) ((Zk (x:=.int c) (y:=.int 2) rfl rfl).trans (Xq (by decide) (by decide))) rfl).trans (Yt (by decide)))).trans ((add_int _ _).trans (by rw [ha',nD,Int.natCast_add];rfl)))
   have e2:gr2 [some (.int c),some (.int d),some (nD (2+a)),none]=some (gD (mks d (2+a)) (YF (c.fdiv 4) (2+a) (2+a)) 1):=V0 (Zh ((YC (n:=2) (Zh (x:=.int d) rfl (Zh (x:=nD (2+a)) rfl nil_of)) rfl).trans (Zb0 d (2+a) (by omega))) (Zh ((YC (n:=2) (Zh ((Zk (x:=.int c) (y:=.int 4) rfl rfl).trans (Xq (by decide) (by decide))) (Zh (x:=nD (2+a)) rfl nil_of)) rfl).trans (ZgM _ (by omega) (by omega))) (Zh (x:=.int 1) rfl nil_of))) (by show 3<=1000;decide)
   rw [Za6];refine ZcE ((Y7 et).trans ?_);rw [Zp t1];exact Yx e2
 · obtain⟨s,hs,hsl⟩:=YK (c.fdiv 2) (m:=4) (by decide)
   have hs':(c.fdiv 2).fmod 4=(s:Int):=hs;obtain⟨f,hf,hfl⟩:=YK (c.fdiv 8) (m:=s+1) (by omega);refine⟨mks d 2,Y3 f s (s+1),s,ZjP d (by omega) (by omega),Yz (δ:=[some (.int c),some (.int d),none,none]) rfl ?_⟩;rw [decide_eq_false hz]at et;have t3:gr3 [some (.int c),some (.int d),none,none]=some (.nx [some (.int c),some (.int d),none,some (nD s)]):=Zz ((Zk (y:=.int 4) ((Zk (x:=.int c) (y:=.int 2) rfl rfl).trans (Xq (by decide) (by decide))) rfl).trans ((Yt (by decide)).trans (by rw [hs'])))
   have ef:eOp modW (eOp fdivW (Za 0) (eC (.int 8))) (eOp addX (Za 3) (eC (.int 1))) [some (.int c),some (.int d),none,some (nD s)]=some (nD f):=(Zk (x:=.int (c.fdiv 8)) (y:=.int ((s+1:Nat):Int)) ((Zk (x:=.int c) (y:=.int 8) rfl rfl).trans (Xq (by decide) (by decide))) ((Zk (x:=nD s) (y:=.int 1) rfl rfl).trans (add_int _ _))).trans ((Yt (by omega)).trans (by rw [hf]));have e4:gr4 [some (.int c),some (.int d),none,some (nD s)]=some (gD (mks d 2) (Y3 f s (s+1)) s):=V0 (Zh ((YC (n:=2) (Zh (x:=.int d) rfl (Zh (x:=nD 2) rfl nil_of)) rfl).trans (Zb0 d 2 (by decide))) (Zh ((YC (n:=2) (Zh ef (Zh (x:=nD s) rfl nil_of)) rfl).trans (Zil (by omega))) (Zh (x:=nD s) rfl nil_of))) (by show 3<=1000;decide)
   rw [Za6,Zp ((Ye et).trans rfl),Zp t3];exact Yx e4
end K44
namespace K44
open DL L2
def mi(mk:List Nat)(c:Nat):Nat:=mk.findIdx (λx=>decide (x=c))
def wk(mk:List Nat)(gw:Gw):Nat->List Nat->Option Nat
 |r,[]=>some r
 |r,c::b=>match gat gw r (mi mk c)with
  |none=>none
  |some t=>wk mk gw t b
theorem Jr(mk:List Nat)(gw:Gw)(r c:Nat)(x:List Nat):wk mk gw r (c::x)=(gat gw r (mi mk c)).bind λt=>wk mk gw t x:=by
 show(match gat gw r (mi mk c)with|none=>none|some t=>wk mk gw t x)=_;cases gat gw r (mi mk c)<;>rfl
theorem QA(mk:List Nat)(gw:Gw):∀(b b':List Nat)(r:Nat),wk mk gw r (b++b')=(wk mk gw r b).bind λt=>wk mk gw t b'
 | [],b',r=>rfl
 |c::b,b',r=>by
  rw [List.cons_append,Jr,Jr];cases gat gw r (mi mk c)with
  |none=>rfl
  |some t=>exact QA mk gw b b' t
theorem UQ{mk:List Nat}(h:mk.Nodup){k:Nat}(hk:k<mk.length):mi mk (mk.getD k 0)=k:=by
 have e:mk.getD k 0=mk[k]:=by rw [List.getD_eq_getElem?_getD,List.getElem?_eq_getElem hk];rfl
 rw [e];unfold mi;rw [List.findIdx_eq hk];refine⟨decide_eq_true rfl,λj hj=>decide_eq_false λz => ?_⟩;have:=(List.pairwise_iff_getElem.mp h) j k (by omega) hk hj;exact this z
abbrev Pr:=List Nat×Nat
def prD(p:Pr):D := .tup [.str p.1,nD p.2]
def nxt(mk:List Nat)(gw:Gw)(p:Pr)(k:Nat):Option Pr:=(gat gw p.2 k).map λt=>(p.1++[mk.getD k 0],t)
def stp(mk:List Nat)(gw:Gw)(p:Pr):List Pr:=(List.range mk.length).filterMap (nxt mk gw p)
def blk(mk:List Nat)(gw:Gw)(r:Nat):Nat->List Pr
 |0=>[([],r)]
 |q+1=>(blk mk gw r q).flatMap (stp mk gw)
structure BOk(mk:List Nat)(gw:Gw)(r q:Nat)(p:Pr):Prop where
 ln:p.1.length=q
 wk:wk mk gw r p.1=some p.2
 lt:p.2<gw.length
 cd:∀c∈p.1,c∈mk
section
variable{mk:List Nat}{gw:Gw}
theorem QB{p p':Pr}{k:Nat}(h:nxt mk gw p k=some p'):∃t,gat gw p.2 k=some t/\p'=(p.1++[mk.getD k 0],t):=by
 unfold nxt at h;cases e:gat gw p.2 k with
 |none=>rw [e]at h;cases h
 |some t=>rw [e]at h;exact⟨t,rfl,(Option.some.inj h).symm⟩
theorem ZhF{k:Nat}(hk:k<mk.length):mk.getD k 0∈mk:=by
 rw [List.getD_eq_getElem?_getD,List.getElem?_eq_getElem hk];exact List.getElem_mem hk
theorem UR(g:GOk mk gw){r:Nat}(hr:r<gw.length):∀q,∀p∈blk mk gw r q,BOk mk gw r q p
 |0,p,hp=>by
  rw [List.mem_singleton.mp hp];exact⟨rfl,rfl,hr,λc hc=>by cases hc⟩
 |q+1,p,hp=>by
  obtain⟨p0,h0,h1⟩:=List.mem_flatMap.mp hp;have ih:=UR g hr q p0 h0;obtain⟨k,hk,e⟩:=List.mem_filterMap.mp h1;have hk:=List.mem_range.mp hk;obtain⟨t,et,rfl⟩:=QB e;refine⟨by show(p0.1++_).length=_;rw [List.length_append,ih.ln];rfl,?_,g.lt _ _ _ et,λc hc => ?_⟩
  · show K44.wk mk gw r (p0.1++[mk.getD k 0])=some t
    rw [QA,ih.wk];show K44.wk mk gw p0.2 [mk.getD k 0]=some t;unfold K44.wk;rw [UQ g.nd hk,et];rfl
  · rcases List.mem_append.mp hc with z|z
    · exact ih.cd c z
    · rw [List.mem_singleton.mp z];exact ZhF hk
theorem ZfC(g:GOk mk gw){r:Nat}(hr:r<gw.length):∀q,((blk mk gw r q).map (·.1)).Nodup
 |0=>by simp [blk]
 |q+1=>by
  have ih:=ZfC g hr q;unfold blk;rw [List.map_flatMap];refine List.pairwise_flatMap.mpr ⟨λp hp => ?_,?_⟩
  · unfold stp
    rw [List.map_filterMap];refine List.pairwise_filterMap.mpr (List.pairwise_lt_range.imp_of_mem λ{a b} ha hb hab x hx y hy e => ?_);have ha:=List.mem_range.mp ha;have hb:=List.mem_range.mp hb;obtain⟨p1,e1,rfl⟩:=Option.map_eq_some_iff.mp hx;obtain⟨p2,e2,rfl⟩:=Option.map_eq_some_iff.mp hy;obtain⟨t1,_,rfl⟩:=QB e1;obtain⟨t2,_,rfl⟩:=QB e2
    have:mk.getD a 0=mk.getD b 0:=by
     have:=List.append_cancel_left e;exact(List.cons.inj this).1
    have h1:=UQ g.nd ha;rw [this,UQ g.nd hb]at h1;omega
  · have ih':=List.pairwise_map.mp ih
    refine ih'.imp_of_mem λ{p p'} hp hp' hne x hx y hy e => ?_
    obtain⟨p1,h1,rfl⟩:=List.mem_map.mp hx;obtain⟨p2,h2,rfl⟩:=List.mem_map.mp hy;obtain⟨a,_,e1⟩:=List.mem_filterMap.mp h1;obtain⟨b,_,e2⟩:=List.mem_filterMap.mp h2;obtain⟨t1,_,rfl⟩:=QB e1;obtain⟨t2,_,rfl⟩:=QB e2;have l1:=(UR g hr q p hp).ln;have l2:=(UR g hr q p' hp').ln;exact hne (List.append_inj_left e (by rw [l1,l2]))
theorem Zdl(p:Pr):(stp mk gw p).length<=mk.length:=by
 unfold stp;exact Nat.le_trans (List.length_filterMap_le _ _) (by rw [List.length_range];exact Nat.le_refl _)
theorem Zb2(m:Nat)(f:Pr->List Pr)(h:∀p,(f p).length<=m):∀l:List Pr,(l.flatMap f).length<=l.length*m
 | []=>by simp
 |p::l=>by
  rw [List.flatMap_cons,List.length_append,List.length_cons,Nat.succ_mul];have:=h p;have:=Zb2 m f h l;omega
theorem blk_len(g:GOk mk gw)(r:Nat):∀q,(blk mk gw r q).length<=3 ^ q
 |0=>by simp [blk]
 |q+1=>by
  have ih:=blk_len g r q;have:=Zb2 3 (stp mk gw) (λp=>Nat.le_trans (Zdl p) g.m3) (blk mk gw r q);unfold blk;rw [Nat.pow_succ];omega
theorem Zdm(g:GOk mk gw){r:Nat}(hr:r<gw.length):∀q,∃b,(b,(r+q) % gw.length)∈blk mk gw r q
 |0=>⟨[],by rw [Nat.add_zero,Nat.mod_eq_of_lt hr];exact List.mem_singleton.mpr rfl⟩
 |q+1=>by
  obtain⟨b,hb⟩:=Zdm g hr q;obtain⟨k,hk,e⟩:=g.cyc ((r+q) % gw.length) (Nat.mod_lt _ (by have:=g.r1;omega));refine⟨b++[mk.getD k 0],List.mem_flatMap.mpr ⟨_,hb,List.mem_filterMap.mpr ⟨k,List.mem_range.mpr hk,?_⟩⟩⟩;unfold nxt;rw [e];show some (b++[mk.getD k 0],((r+q) % gw.length+1) % gw.length)=some (b++[mk.getD k 0],(r+(q+1)) % gw.length);rw [Nat.mod_add_mod];rfl
noncomputable def bW:DL.Env->Option D:=(eOp ixD (eOp ixD (Za 1) (Za 8)) (Za 9))
noncomputable def bA:DL.Env->Option D:=(Yc (Zb (eOp addX (Za 7) (eOp ixD (Za 0) (Za 9))) (Zb bW eNil)))
noncomputable def bI:DL.Env->Option Out:=(sIf (xB (Xx bW)) (ZW 6 bA) sNext)
noncomputable def bK:DL.Env->Option Out:=(ZB (ZH (Zb (eCB lenD (Zb (Za 0) eNil)) eNil)) (Zo 9) bI)
noncomputable def bL:DL.Env->Option Out:=(ZB (ZJ (Za 4)) (ZS 2 (ZG 7 (ZG 8 gsNil))) bK)
noncomputable def bB:DL.Env->Option Out:=(Zd (Zg 6 (Zv eNil)) (Zd bL (Zg 4 (Za 6))))
theorem Zec:f_QJ=Zd (Zg 4 (Zv (Zb (Yc (Zb (eC (.str [])) (Zb (Za 2) eNil))) eNil))) (Zd (ZB (ZH (Zb (Za 3) eNil)) (Zo 5) bB) (ZA (Za 4))):=rfl
abbrev B10(mk:List Nat)(gw:Gw)(r q:Nat)(v4 v5 v6 v7 v8 v9:Option D):DL.Env:=[some (.str mk),some (gwD gw),some (nD r),some (nD q),v4,v5,v6,v7,v8,v9]
theorem Js(g:GOk mk gw){r:Nat}(hr:r<gw.length):ixD (gwD gw) (nD r)=some (grD (gw.getD r []))/\(gw.getD r []).length=mk.length:=by
 have e:gw[r]? = some (gw.getD r []):=by rw [List.getD_eq_getElem?_getD,List.getElem?_eq_getElem hr];rfl
 exact⟨ix_tup (by rw [List.getElem?_map,e];rfl),g.row _ (List.mem_of_getElem? e)⟩
theorem ZcI(g:GOk mk gw){r k:Nat}(hr:r<gw.length)(hk:k<mk.length):ixD (grD (gw.getD r [])) (nD k)=some (wyD (gat gw r k)):=by
 have hl:=(Js g hr).2;refine ix_tup ?_;unfold gat;generalize gw.getD r []=l at hl;rw [List.getElem?_map,List.getD_eq_getElem?_getD,List.getElem?_eq_getElem (by omega)];rfl
theorem ZhG(g:GOk mk gw){k:Nat}(hk:k<mk.length):ixD (.str mk) (nD k)=some (.str [mk.getD k 0]):=ix_str (by rw [List.getD_eq_getElem?_getD,List.getElem?_eq_getElem hk];rfl) (by have:=g.m3;omega)
theorem ZjQ(g:GOk mk gw){r q:Nat}{p:Pr}(hp:p.2<gw.length)(hpl:p.1.length<=10)(acc:List Pr)(ha:acc.length<=10000)(v4 v5 v9:Option D):∃w9,bK (B10 mk gw r q v4 v5 (some (.lst (acc.map prD))) (some (.str p.1)) (some (nD p.2)) v9)=some (.nx (B10 mk gw r q v4 v5 (some (.lst ((acc++stp mk gw p).map prD))) (some (.str p.1)) (some (nD p.2)) w9)):=by
 have m3:=g.m3
 obtain⟨δ',f,w9,e⟩:=Y0 (γ:=Zo 9) (φ:=bI) (λk δ=>∃w9,δ=B10 mk gw r q v4 v5 (some (.lst ((acc++(List.range k).filterMap (nxt mk gw p)).map prD))) (some (.str p.1)) (some (nD p.2)) w9) ((List.range mk.length).map nD) 0 (B10 mk gw r q v4 v5 (some (.lst (acc.map prD))) (some (.str p.1)) (some (nD p.2)) v9) ⟨v9,by simp⟩ (by
  rintro k x δ hx ⟨w9,rfl⟩
  have hk:k<mk.length:=by
   have:=(List.getElem?_eq_some_iff.mp hx).1
   rwa [List.length_map,List.length_range]at this
  rw [List.getElem?_map,List.getElem?_range hk]at hx;cases hx;rw [Nat.zero_add];have hl:((List.range k).filterMap (nxt mk gw p)).length<=k:=Nat.le_trans (List.length_filterMap_le _ _) (by rw [List.length_range];exact Nat.le_refl _);generalize hA:acc++(List.range k).filterMap (nxt mk gw p)=A;have hAl:A.length<=10010:=by rw [<-hA,List.length_append];omega
  have eW:bW (B10 mk gw r q v4 v5 (some (.lst (A.map prD))) (some (.str p.1)) (some (nD p.2)) (some (nD k)))=some (wyD (gat gw p.2 k)):=(Zk (y:=nD k) ((Zk (x:=gwD gw) (y:=nD p.2) rfl rfl).trans (Js g hp).1) rfl).trans (ZcI g hp hk)
  have es:acc++(List.range (k+1)).filterMap (nxt mk gw p)=A++(nxt mk gw p k).toList:=by
   rw [<-hA,List.range_succ,List.filterMap_append,List.append_assoc]
   have:List.filterMap (nxt mk gw p) [k]=(nxt mk gw p k).toList:=by
    cases h:nxt mk gw p k<;>simp [List.filterMap,h]
   rw [this]
  refine⟨B10 mk gw r q v4 v5 (some (.lst (A.map prD))) (some (.str p.1)) (some (nD p.2)) (some (nD k)),rfl,B10 mk gw r q v4 v5 (some (.lst ((acc++(List.range (k+1)).filterMap (nxt mk gw p)).map prD))) (some (.str p.1)) (some (nD p.2)) (some (nD k)),?_,_,rfl⟩;rw [es];unfold nxt;cases hg:gat gw p.2 k with
  |none=>
   rw [hg]at eW
   have et:xB (Xx bW) (B10 mk gw r q v4 v5 (some (.lst (A.map prD))) (some (.str p.1)) (some (nD p.2)) (some (nD k)))=some false:=by
    unfold xB Xx;rw [eW];rfl
   refine(Ye et).trans ?_;show some (Out.nx _)=some (Out.nx _);simp
  |some t=>
   rw [hg]at eW
   have et:xB (Xx bW) (B10 mk gw r q v4 v5 (some (.lst (A.map prD))) (some (.str p.1)) (some (nD p.2)) (some (nD k)))=some true:=by
    unfold xB Xx;rw [eW];rfl
   have eA:bA (B10 mk gw r q v4 v5 (some (.lst (A.map prD))) (some (.str p.1)) (some (nD p.2)) (some (nD k)))=some (prD (p.1++[mk.getD k 0],t)):=V0 (Zh ((Zk (x:=.str p.1) rfl ((Zk (x:=.str mk) (y:=nD k) rfl rfl).trans (ZhG g hk))).trans (add_str (by show p.1.length+1<=100000;omega))) (Zh eW nil_of)) (by show 2<=1000;decide);refine(Y7 et).trans ((XE (xs:=A.map prD) rfl eA (by rw [List.length_map];omega)).trans ?_)
   show some (Out.nx _)=some (Out.nx _);simp)
 subst e;rw [List.length_map,List.length_range,Nat.zero_add]at f;exact⟨w9,Ym (Xg (m:=mk.length) (Zh ((ZN (Zh (x:=.str mk) rfl nil_of)).trans (len_str (by omega))) nil_of) (by omega)) f⟩
theorem ZhH(g:GOk mk gw){r q:Nat}(v5 v4:Option D):∀(ps:List Pr)(acc:List Pr)(v7 v8 v9:Option D),(∀p∈ps,p.2<gw.length/\p.1.length<=10)->acc.length+3*ps.length<=10000->∃w7 w8 w9,ZP (ZS 2 (ZG 7 (ZG 8 gsNil))) bK (ps.map prD) (B10 mk gw r q v4 v5 (some (.lst (acc.map prD))) v7 v8 v9)=some (.nx (B10 mk gw r q v4 v5 (some (.lst ((acc++ps.flatMap (stp mk gw)).map prD))) w7 w8 w9))
 | [],acc,v7,v8,v9,_,_=>⟨v7,v8,v9,by simp [ZP]⟩
 |p::ps,acc,v7,v8,v9,h,hl=>by
  have hp:=h p List.mem_cons_self;rw [List.length_cons]at hl;obtain⟨w9,e⟩:=ZjQ g (r:=r) (q:=q) hp.1 hp.2 acc (by omega) v4 v5 v9;have h3:(stp mk gw p).length<=3:=Nat.le_trans (Zdl p) g.m3;obtain⟨y7,y8,y9,ih⟩:=ZhH g (r:=r) (q:=q) v5 v4 ps (acc++stp mk gw p) (some (.str p.1)) (some (nD p.2)) w9 (λx hx=>h x (List.mem_cons_of_mem _ hx)) (by rw [List.length_append];omega)
  refine⟨y7,y8,y9,?_⟩;rw [List.flatMap_cons,<-List.append_assoc];rw [List.map_cons];unfold ZP;have eg:ZS 2 (ZG 7 (ZG 8 gsNil)) (prD p) (B10 mk gw r q v4 v5 (some (.lst (acc.map prD))) v7 v8 v9)=some (B10 mk gw r q v4 v5 (some (.lst (acc.map prD))) (some (.str p.1)) (some (nD p.2)) v9):=rfl;rw [eg];dsimp only;rw [e];exact ih
theorem ZcJ{q:Nat}(hq:q<=4):3 ^ q<=81:=by
 have:q=0\/q=1\/q=2\/q=3\/q=4:=by omega
 rcases this with rfl|rfl|rfl|rfl|rfl<;>decide
theorem Zed(g:GOk mk gw){r q:Nat}(hr:r<gw.length)(hq:q<=4):Jj [.str mk,gwD gw,nD r,nD q]=some (.lst ((blk mk gw r q).map prD)):=by
 obtain⟨δ',f,w5,w6,w7,w8,w9,e⟩:=Y0 (γ:=Zo 5) (φ:=bB) (λi δ=>∃w5 w6 w7 w8 w9,δ=B10 mk gw r q (some (.lst ((blk mk gw r i).map prD))) w5 w6 w7 w8 w9) ((List.range q).map nD) 0 (B10 mk gw r q (some (.lst ((blk mk gw r 0).map prD))) none none none none none) ⟨_,_,_,_,_,rfl⟩ (by
  rintro i x δ hx ⟨w5,w6,w7,w8,w9,rfl⟩
  have hi:i<q:=by
   have:=(List.getElem?_eq_some_iff.mp hx).1
   rwa [List.length_map,List.length_range]at this
  rw [List.getElem?_map,List.getElem?_range hi]at hx;cases hx;rw [Nat.zero_add];have hlen:=blk_len g r i;have hpow:=ZcJ (q:=i) (by omega);have t1:Zg 6 (Zv eNil) (B10 mk gw r q (some (.lst ((blk mk gw r i).map prD))) (some (nD i)) w6 w7 w8 w9)=some (.nx (B10 mk gw r q (some (.lst ((blk mk gw r i).map prD))) (some (nD i)) (some (.lst (([]:List Pr).map prD))) w7 w8 w9)):=Zz (Yy nil_of (by show 0<=1000;decide))
  obtain⟨y7,y8,y9,hl⟩:=ZhH g (r:=r) (q:=q) (some (nD i)) (some (.lst ((blk mk gw r i).map prD))) (blk mk gw r i) [] w7 w8 w9 (λp hp=>by
   have:=UR g hr i p hp;exact⟨this.lt,by rw [this.ln];omega⟩) (by show 0+_<=_;omega)
  have t2:bL (B10 mk gw r q (some (.lst ((blk mk gw r i).map prD))) (some (nD i)) (some (.lst (([]:List Pr).map prD))) w7 w8 w9)=some (.nx (B10 mk gw r q (some (.lst ((blk mk gw r i).map prD))) (some (nD i)) (some (.lst ((blk mk gw r (i+1)).map prD))) y7 y8 y9)):=Ym (XF rfl) hl;refine⟨B10 mk gw r q (some (.lst ((blk mk gw r i).map prD))) (some (nD i)) w6 w7 w8 w9,rfl,B10 mk gw r q (some (.lst ((blk mk gw r (i+1)).map prD))) (some (nD i)) (some (.lst ((blk mk gw r (i+1)).map prD))) y7 y8 y9,?_,_,_,_,_,_,rfl⟩
  unfold bB;rw [Zp t1,Zp t2];rfl)
 subst e;rw [List.length_map,List.length_range,Nat.zero_add]at f;refine Yz (δ:=B10 mk gw r q none none none none none none) rfl ?_;have t1:Zg 4 (Zv (Zb (Yc (Zb (eC (.str [])) (Zb (Za 2) eNil))) eNil)) (B10 mk gw r q none none none none none none)=some (.nx (B10 mk gw r q (some (.lst ((blk mk gw r 0).map prD))) none none none none none)):=Zz (Yy (Zh (V0 (Zh (x:=.str []) rfl (Zh (x:=nD r) rfl nil_of)) (by show 2<=1000;decide)) nil_of) (by show 1<=1000;decide))
 rw [Zec,Zp t1,Zp (Ym (Xg (m:=q) rfl (by omega)) f)];exact Yx rfl
end
end K44
namespace K44
open DL L2
structure Sh(k:Nat)(d:D):Prop where
 can:PySem.PyData.canLay0 (toP d)=true
 dep:PySem.PyData.depth (toP d)<=k
theorem ZcK{k:Nat}:∀{xs:List D},(∀x∈xs,Sh k x)->PySem.PyData.canLayAll0 (X2 xs)=true/\PySem.PyData.depthAll (X2 xs)<=k
 | [],_=>⟨rfl,Nat.zero_le _⟩
 |x::xs,h=>by
  obtain⟨h1,h2⟩:=ZcK (xs:=xs) λy hy=>h y (List.mem_cons_of_mem _ hy)
  have hx:=h x List.mem_cons_self;rw [X2,PySem.PyData.canLayAll0,PySem.PyData.depthAll,hx.can,h1];exact⟨rfl,Nat.max_le.mpr ⟨hx.dep,h2⟩⟩
theorem Zim{k:Nat}{xs:List D}(h:∀x∈xs,Sh k x):Sh (k+1) (.tup xs):=by
 obtain⟨h1,h2⟩:=ZcK h;exact⟨by rw [toP,PySem.PyData.canLay0];exact h1,by rw [toP,PySem.PyData.depth];omega⟩
theorem QC{k:Nat}{xs:List D}(h:∀x∈xs,Sh k x):Sh (k+1) (.lst xs):=by
 obtain⟨h1,h2⟩:=ZcK h;exact⟨by rw [toP,PySem.PyData.canLay0];exact h1,by rw [toP,PySem.PyData.depth];omega⟩
theorem ZfD(k:Nat)(i:Int):Sh k (.int i):=⟨rfl,Nat.zero_le _⟩
theorem Jt{k:Nat}{d:D}(h:Sh k d)(hk:k<=64):PySem.SeqAt.shaped (toP d)=true:=by
 unfold PySem.SeqAt.shaped;rw [h.can,decide_eq_true (Nat.le_trans h.dep hk)];rfl
theorem Zin{α:Type}{k:Nat}{f:α->D}{l:List α}(h:∀x,Sh k (f x)):∀y∈l.map f,Sh k y:=λy hy=>by
 obtain⟨x,_,rfl⟩:=List.mem_map.mp hy;exact h x
theorem Zio(k:Nat){w:List Nat}(h:Vs w):Sh k (.str w):=⟨ZeY h,Nat.zero_le _⟩
theorem ZhI(t:Nat):∀P:List Nat,inV (.int (t:Int)) ((P.map nD).map val)=decide (t∈P)
 | []=>by simp [inV]
 |p::P=>by
  have ih:=ZhI t P;unfold inV at ih ⊢;rw [List.map_cons,List.map_cons,List.any_cons,ih];show(((p:Int) == (t:Int))||decide (t∈P))=_
  by_cases e:p=t
  · subst e
    simp
  · have e2:¬t=p:=λz=>e z.symm
    have e3:((p:Int) == (t:Int))=false:=by simp;omega
    rw [e3];simp [e2]
theorem ZkF(P:List Nat):(P.map nD).all Zx=true:=by
 rw [List.all_map];exact List.all_eq_true.mpr λx _=>rfl
theorem ZkG(t:Nat)(P:List Nat):inD false (nD t) (AD P)=some (.bl (decide (t∈P))):=by
 show(if(Zx (.int (t:Int))&&(P.map nD).all Zx)=true then some (D.bl (if false=true then !(inV (.int (t:Int)) ((P.map nD).map val))else inV (.int (t:Int)) ((P.map nD).map val)))else none)=_;rw [ZkF,if_pos (show(Zx (.int (t:Int))&&true)=true from rfl),if_neg Bool.false_ne_true,ZhI]
theorem Zip{xs:List D}(h:PySem.SeqAt.shaped (toP (.lst xs))=true):eqD (.lst xs) (.lst [])=some (.bl (decide (xs=[]))):=by
 unfold eqD;have e2:PySem.SeqAt.shaped (toP (.lst []))=true:=Jt (k:=1) (QC (xs:=[]) λ_ z=>nomatch z) (by decide);rw [if_neg (by simp [Zx]),h,e2,if_pos (by rfl)];cases xs with
 |nil=>rfl
 |cons w ws=>rfl
theorem intsD_map:∀ns:List Int,XA (ns.map D.int)=some ns
 | []=>rfl
 |n::ns=>by
  rw [List.map_cons,XA,intsD_map ns]
theorem Zdn{ns:List Int}(h:0<ns.length):minQD [.lst (ns.map D.int)]=some (.int (Xo ns)):=by
 show minLD [.lst (ns.map D.int)]=_;unfold minLD;dsimp only;rw [intsD_map];exact if_pos h
def lrD(row:List Pr):D := .lst (row.map prD)
def chR(mk:List Nat)(gw:Gw)(base:List Nat)(q:Nat):List (List Pr):=base.map λr=>(blk mk gw r q).filter λp=>decide (p.2∈base)
def fw(rows:List (List Pr)):Int:=Xo (rows.map λr=>(r.length:Int))
structure Base(gw:Gw)(base:List Nat):Prop where
 ne:0<base.length
 lt:∀r∈base,r<gw.length
 nd:base.Nodup
 l4:base.length<=4
section
variable{mk:List Nat}{gw:Gw}{base:List Nat}
theorem Ur(q:Nat):(chR mk gw base q).length=base.length:=by unfold chR;rw [List.length_map]
theorem ZjR(hb:Base gw base){q:Nat}{row:List Pr}(h:row∈chR mk gw base q):fw (chR mk gw base q)<=row.length:=by
 have hl:0<((chR mk gw base q).map λr=>(r.length:Int)).length:=by rw [List.length_map,Ur];exact hb.ne
 exact(Q6 hl).2 _ (List.mem_map.mpr ⟨row,h,rfl⟩)
theorem Ziq(g:GOk mk gw)(hb:Base gw base):1<=fw (chR mk gw base gw.length):=by
 have hl:0<((chR mk gw base gw.length).map λr=>(r.length:Int)).length:=by rw [List.length_map,Ur];exact hb.ne
 obtain⟨row,hr,e⟩:=List.mem_map.mp (Q6 hl).1;unfold fw;rw [<-e];unfold chR at hr;obtain⟨r,hr',rfl⟩:=List.mem_map.mp hr;obtain⟨b,hb'⟩:=Zdm g (hb.lt r hr') gw.length;rw [Nat.add_mod_right,Nat.mod_eq_of_lt (hb.lt r hr')]at hb';have:(b,r)∈(blk mk gw r gw.length).filter λp=>decide (p.2∈base):=List.mem_filter.mpr ⟨hb',decide_eq_true hr'⟩
 have:=List.length_pos_of_mem this;omega
structure Ch(mk:List Nat)(gw:Gw)(base:List Nat)(q:Nat)(rows:List (List Pr)):Prop where
 q1:1<=q
 q4:q<=4
 ln:rows.length=base.length
 ok:∀(i:Nat)(row:List Pr)(r:Nat),rows[i]? = some row->base[i]? = some r->(∀p∈row,BOk mk gw r q p/\p.2∈base)/\(row.map (·.1)).Nodup/\1<=row.length/\row.length<=81
theorem ZhJ(g:GOk mk gw)(hb:Base gw base){q:Nat}(q1:1<=q)(q4:q<=4)(hf:1<=fw (chR mk gw base q)):Ch mk gw base q (chR mk gw base q):=by
 refine⟨q1,q4,Ur q,λi row r e1 e2 => ?_⟩;have hm:=List.mem_of_getElem? e1;unfold chR at e1;rw [List.getElem?_map,e2]at e1;cases e1;have hr:=hb.lt r (List.mem_of_getElem? e2);refine⟨λp hp => ?_,?_,?_,?_⟩
 · obtain⟨h1,h2⟩:=List.mem_filter.mp hp
   exact⟨UR g hr q p h1,of_decide_eq_true h2⟩
 · exact(ZfC g hr q).sublist ((List.filter_sublist).map _)
 · have:=ZjR hb hm
   omega
 · have h1:((blk mk gw r q).filter λp=>decide (p.2∈base)).length<=(blk mk gw r q).length:=List.length_filter_le _ _
   have h2:=blk_len g r q;exact Nat.le_trans h1 (Nat.le_trans h2 (ZcJ (q:=q) q4))
noncomputable def c7:DL.Env->Option Out:=(Zg 7 (Zy 4 Jj [] (Zb (eOp ixD (Za 0) (eC (.int 0))) (Zb (eOp ixD (Za 0) (eC (.int 1))) (Zb (Za 6) (Zb (eOp addX (eC (.int 1)) (eOp modW (eOp addX (Za 2) (Za 4)) (eC (.int 4)))) eNil))))))
noncomputable def c5:DL.Env->Option Out:=(ZW 5 (ZT (ZJ (Za 7)) (Zo 0) (xB (eOp (inD false) (eOp ixD (Za 0) (eC (.int 1))) (Za 1))) (Za 0) 1 [1]))
noncomputable def c8:DL.Env->Option Out:=(Zg 8 (eCB minQD (Zb (ZT (ZJ (Za 5)) (Zo 0) (λ_=>some true) (eCB lenD (Zb (Za 0) eNil)) 1 []) eNil)))
noncomputable def cR:DL.Env->Option Out:=(sIf (xB (eOp (ZQ λi j=>decide (j<i)) (Za 8) (eC (.int 1)))) (ZA (Za 5)) sNext)
noncomputable def cS:DL.Env->Option Out:=(sIf (Xa (xB (eOp eqD (Za 8) (eC (.int 1)))) (xB (eOp eqD (Za 3) (Zv eNil)))) (Zg 3 (Za 5)) sNext)
noncomputable def cL:DL.Env->Option Out:=(ZB (ZJ (Za 1)) (Zo 6) (Zd c7 c5))
noncomputable def cB:DL.Env->Option Out:=(Zd (Zg 5 (Zv eNil)) (Zd cL (Zd c8 (Zd cR cS))))
theorem ZaA:f_QH=Zd (Zg 3 (Zv eNil)) (Zd (ZB (ZH (Zb (eC (.int 4)) eNil)) (Zo 4) cB) (ZA (Za 3))):=rfl
abbrev C9(mk:List Nat)(gw:Gw)(x:Int)(base:List Nat)(c:Int)(v3 v4 v5 v6 v7 v8:Option D):DL.Env:=[some (gD mk gw x),some (AD base),some (.int c),v3,v4,v5,v6,v7,v8]
theorem ZfV{mk:List Nat}{gw:Gw}{x:Int}{κ:DL.Env->Option D}{δ:DL.Env}(h:κ δ=some (gD mk gw x)):eOp ixD κ (eC (.int 0)) δ=some (.str mk):=(Zk (y:=.int 0) h rfl).trans rfl
theorem Ju{mk:List Nat}{gw:Gw}{x:Int}{κ:DL.Env->Option D}{δ:DL.Env}(h:κ δ=some (gD mk gw x)):eOp ixD κ (eC (.int 1)) δ=some (gwD gw):=(Zk (y:=.int 1) h rfl).trans rfl
theorem ZjS(g:GOk mk gw)(hb:Base gw base)(x c:Int){i q:Nat}(hq:1+(c+(i:Int)).fmod 4=(q:Int))(hq4:q<=4)(v3 v6 v7 v8:Option D):∃w6 w7,cL (C9 mk gw x base c v3 (some (nD i)) (some (.lst [])) v6 v7 v8)=some (.nx (C9 mk gw x base c v3 (some (nD i)) (some (.lst ((chR mk gw base q).map lrD))) w6 w7 v8)):=by
 have hb4:=hb.l4
 obtain⟨δ',f,w6,w7,e⟩:=Y0 (γ:=Zo 6) (φ:=Zd c7 c5) (λj δ=>∃w6 w7,δ=C9 mk gw x base c v3 (some (nD i)) (some (.lst (((chR mk gw base q).take j).map lrD))) w6 w7 v8) (base.map nD) 0 (C9 mk gw x base c v3 (some (nD i)) (some (.lst [])) v6 v7 v8) ⟨v6,v7,rfl⟩ (by
  rintro j y δ hx ⟨w6,w7,rfl⟩
  have hj:j<base.length:=by
   have:=(List.getElem?_eq_some_iff.mp hx).1
   rwa [List.length_map]at this
  rw [List.getElem?_map,List.getElem?_eq_getElem hj]at hx;cases hx;rw [Nat.zero_add];have hr:=hb.lt base[j] (List.getElem_mem hj);generalize hX:(some (D.lst (((chR mk gw base q).take j).map lrD)):Option D)=X;have t7:c7 (C9 mk gw x base c v3 (some (nD i)) X (some (nD base[j])) w7 v8)=some (.nx (C9 mk gw x base c v3 (some (nD i)) X (some (nD base[j])) (some (.lst ((blk mk gw base[j] q).map prD))) v8)):=Zz ((YC (n:=4) (Zh (ZfV rfl) (Zh (Ju rfl) (Zh (x:=nD base[j]) rfl (Zh (x:=nD q) ((Zk (x:=.int 1) (y:=.int ((c+(i:Int)).fmod 4)) rfl ((Zk (y:=.int 4) ((Zk (x:=.int c) (y:=nD i) rfl rfl).trans (add_int _ _)) rfl).trans (Yt (by decide)))).trans ((add_int _ _).trans (by rw [hq]))) nil_of)))) rfl).trans (Zed g hr hq4))
  have hlen:=blk_len g base[j] q;have hpow:=ZcJ (q:=q) hq4;have hc:ZZ (Zo 0) (xB (eOp (inD false) (eOp ixD (Za 0) (eC (.int 1))) (Za 1))) (Za 0) [none,some (AD base)] ((blk mk gw base[j] q).map prD)=some (((blk mk gw base[j] q).filter λp=>decide (p.2∈base)).map prD):=Zal prD prD _ _ λp _=>⟨[some (prD p),some (AD base)],rfl,ZX ((Zk (x:=nD p.2) (y:=AD base) ((Zk (x:=prD p) (y:=.int 1) rfl rfl).trans rfl) rfl).trans (ZkG _ _)),rfl⟩
  have hfl:(((blk mk gw base[j] q).filter λp=>decide (p.2∈base)).map prD).length<=1000:=by
   rw [List.length_map];have h1:((blk mk gw base[j] q).filter λp=>decide (p.2∈base)).length<=(blk mk gw base[j] q).length:=List.length_filter_le _ _;omega
  have eC:ZT (ZJ (Za 7)) (Zo 0) (xB (eOp (inD false) (eOp ixD (Za 0) (eC (.int 1))) (Za 1))) (Za 0) 1 [1] (C9 mk gw x base c v3 (some (nD i)) X (some (nD base[j])) (some (.lst ((blk mk gw base[j] q).map prD))) v8)=some (lrD ((blk mk gw base[j] q).filter λp=>decide (p.2∈base))):=XU (XF rfl) rfl hc (by omega)
  have hget:(chR mk gw base q)[j]? = some ((blk mk gw base[j] q).filter λp=>decide (p.2∈base)):=by
   unfold chR;rw [List.getElem?_map,List.getElem?_eq_getElem hj];rfl
  have es:((chR mk gw base q).take (j+1)).map lrD=((chR mk gw base q).take j).map lrD++[lrD ((blk mk gw base[j] q).filter λp=>decide (p.2∈base))]:=by
   rw [List.take_add_one,hget,List.map_append];rfl
  refine⟨C9 mk gw x base c v3 (some (nD i)) X (some (nD base[j])) w7 v8,rfl,C9 mk gw x base c v3 (some (nD i)) (some (.lst (((chR mk gw base q).take (j+1)).map lrD))) (some (nD base[j])) (some (.lst ((blk mk gw base[j] q).map prD))) v8,?_,_,_,rfl⟩;rw [Zp t7,es];subst hX;exact(XE (xs:=((chR mk gw base q).take j).map lrD) rfl eC (by rw [List.length_map,List.length_take,Ur];omega)).trans rfl)
 subst e;rw [List.length_map,Nat.zero_add,List.take_of_length_le (by rw [Ur];exact Nat.le_refl _)]at f;exact⟨w6,w7,Ym (XF rfl) f⟩
theorem ZgN(g:GOk mk gw)(hb:Base gw base)(q:Nat):Sh 3 (.lst ((chR mk gw base q).map lrD)):=by
 refine QC λy hy => ?_
 obtain⟨row,hr,rfl⟩:=List.mem_map.mp hy;unfold chR at hr;obtain⟨r,hr',rfl⟩:=List.mem_map.mp hr;refine QC λz hz => ?_
 obtain⟨p,hp,rfl⟩:=List.mem_map.mp hz;have ok:=UR g (hb.lt r hr') q p (List.mem_filter.mp hp).1;refine Zim λu hu => ?_
 rcases List.mem_cons.mp hu with rfl|hu
 · exact Zio _ λc hc=>g.cd c (ok.cd c hc)
 · rcases List.mem_cons.mp hu with rfl|hu
   · exact ZfD _ _
   · cases hu
theorem Zcq(g:GOk mk gw)(hb:Base gw base)(x c:Int):∃q rows,Ch mk gw base q rows/\Jk [gD mk gw x,AD base,.int c]=some (.lst (rows.map lrD)):=by
 have hb4:=hb.l4;have hbn:=hb.ne
 have qs:∀i:Nat,∃q:Nat,1+(c+(i:Int)).fmod 4=(q:Int)/\1<=q/\q<=4:=λi=>by
  obtain⟨a,ha,hal⟩:=YK (c+(i:Int)) (m:=4) (by decide);have ha':(c+(i:Int)).fmod 4=(a:Int):=ha;exact⟨1+a,by rw [ha',Int.natCast_add];rfl,by omega,by omega⟩
 have key:=Zdh (γ:=Zo 4) (φ:=cB) (λi δ=>∃w3 w4 w5 w6 w7 w8,δ=C9 mk gw x base c (some (.lst w3)) w4 w5 w6 w7 w8/\((w3=[]/\∀j,j<i->∀q:Nat,1+(c+(j:Int)).fmod 4=(q:Int)->fw (chR mk gw base q)<1)\/∃q,1<=q/\q<=4/\1<=fw (chR mk gw base q)/\w3=(chR mk gw base q).map lrD)) (λd=>∃q,1<=q/\q<=4/\1<=fw (chR mk gw base q)/\d = .lst ((chR mk gw base q).map lrD)) ((List.range 4).map nD) 0 (C9 mk gw x base c (some (.lst [])) none none none none none) ⟨_,_,_,_,_,_,rfl,.inl ⟨rfl,λj hj=>absurd hj (by omega)⟩⟩ (by
  rintro i y δ hx ⟨w3,w4,w5,w6,w7,w8,rfl,hw⟩
  have hi:i<4:=by
   have:=(List.getElem?_eq_some_iff.mp hx).1
   rwa [List.length_map,List.length_range]at this
  rw [List.getElem?_map,List.getElem?_range hi]at hx;cases hx;rw [Nat.zero_add]at hw ⊢;obtain⟨q,hq,q1,q4⟩:=qs i;have t5:Zg 5 (Zv eNil) (C9 mk gw x base c (some (.lst w3)) (some (nD i)) w5 w6 w7 w8)=some (.nx (C9 mk gw x base c (some (.lst w3)) (some (nD i)) (some (.lst [])) w6 w7 w8)):=Zz (Yy nil_of (by show 0<=1000;decide));obtain⟨y6,y7,tL⟩:=ZjS g hb x c hq q4 (some (.lst w3)) w6 w7 w8
  have hcl:0<((chR mk gw base q).map λr=>(r.length:Int)).length:=by rw [List.length_map,Ur];exact hbn
  have hc8:ZZ (Zo 0) (λ_=>some true) (eCB lenD (Zb (Za 0) eNil)) [none] ((chR mk gw base q).map lrD)=some ((chR mk gw base q).map λr=>D.int (r.length:Int)):=XZ lrD _ _ λrow _=>⟨[some (lrD row)],rfl,(ZN (Zh (x:=lrD row) rfl nil_of)).trans (len_lst.trans (by rw [List.length_map]))⟩
  have t8:c8 (C9 mk gw x base c (some (.lst w3)) (some (nD i)) (some (.lst ((chR mk gw base q).map lrD))) y6 y7 w8)=some (.nx (C9 mk gw x base c (some (.lst w3)) (some (nD i)) (some (.lst ((chR mk gw base q).map lrD))) y6 y7 (some (.int (fw (chR mk gw base q)))))):=by
   refine Zz ((ZN (Zh (XU (XF rfl) rfl hc8 (by rw [List.length_map,Ur];omega)) nil_of)).trans ?_);have:(chR mk gw base q).map (λr=>D.int (r.length:Int))=((chR mk gw base q).map λr=>(r.length:Int)).map D.int:=by rw [List.map_map];rfl
   rw [this];exact Zdn hcl
  generalize hF:fw (chR mk gw base q)=F at t8;have eR:xB (eOp (ZQ λi j=>decide (j<i)) (Za 8) (eC (.int 1))) (C9 mk gw x base c (some (.lst w3)) (some (nD i)) (some (.lst ((chR mk gw base q).map lrD))) y6 y7 (some (.int F)))=some (decide (1<F)):=ZX ((Zk (x:=.int F) (y:=.int 1) rfl rfl).trans rfl)
  have hsh:PySem.SeqAt.shaped (toP (.lst w3))=true:=by
   rcases hw with⟨rfl,_⟩|⟨q',_,_,_,rfl⟩
   · exact Jt (k:=1) (QC (xs:=[]) λ_ z=>nomatch z) (by decide)
   · exact Jt (ZgN g hb q') (by decide)
  have eS:Xa (xB (eOp eqD (Za 8) (eC (.int 1)))) (xB (eOp eqD (Za 3) (Zv eNil))) (C9 mk gw x base c (some (.lst w3)) (some (nD i)) (some (.lst ((chR mk gw base q).map lrD))) y6 y7 (some (.int F)))=some (decide (F=1)&&decide (w3=[])):=ZgJ (ZX ((Zk (x:=.int F) (y:=.int 1) rfl rfl).trans (XT _ _))) (ZX ((Zk (x:=.lst w3) (y:=.lst []) rfl (Yy nil_of (by show 0<=1000;decide))).trans (Zip hsh)))
  refine⟨C9 mk gw x base c (some (.lst w3)) (some (nD i)) w5 w6 w7 w8,rfl,?_⟩
  by_cases h1:1<F
  · rw [decide_eq_true h1]at eR
    refine .inr ⟨_,?_,q,q1,q4,by omega,rfl⟩;unfold cB;rw [Zp t5,Zp tL,Zp t8];exact ZcE ((Y7 eR).trans (Yx rfl))
  · rw [decide_eq_false h1]at eR
    have tR:cR (C9 mk gw x base c (some (.lst w3)) (some (nD i)) (some (.lst ((chR mk gw base q).map lrD))) y6 y7 (some (.int F)))=some (.nx (C9 mk gw x base c (some (.lst w3)) (some (nD i)) (some (.lst ((chR mk gw base q).map lrD))) y6 y7 (some (.int F)))):=(Ye eR).trans rfl
    by_cases h2:F=1/\w3=[]
    · rw [decide_eq_true h2.1,decide_eq_true h2.2]at eS
      refine .inl ⟨C9 mk gw x base c (some (.lst ((chR mk gw base q).map lrD))) (some (nD i)) (some (.lst ((chR mk gw base q).map lrD))) y6 y7 (some (.int F)),?_,_,_,_,_,_,_,rfl,.inr ⟨q,q1,q4,by omega,rfl⟩⟩;unfold cB;rw [Zp t5,Zp tL,Zp t8,Zp tR];exact(Y7 eS).trans rfl
    · have : (decide (F = 1) && decide (w3 = [])) = false := by
       rw [Bool.and_eq_false_iff]
       by_cases z:F=1
       · exact .inr (decide_eq_false λy=>h2 ⟨z,y⟩)
       · exact .inl (decide_eq_false z)
      rw [this]at eS;refine .inl ⟨C9 mk gw x base c (some (.lst w3)) (some (nD i)) (some (.lst ((chR mk gw base q).map lrD))) y6 y7 (some (.int F)),?_,_,_,_,_,_,_,rfl,?_⟩
      · unfold cB
        rw [Zp t5,Zp tL,Zp t8,Zp tR];exact(Ye eS).trans rfl
      · rcases hw with⟨hw1,hw2⟩|hw
        · refine .inl ⟨hw1,λj hj q' hq' => ?_⟩
          by_cases hji:j=i
          · subst hji
            have:q'=q:=by omega
            subst this;have:¬F=1:=λz=>h2 ⟨z,hw1⟩
            omega
          · exact hw2 j (by omega) q' hq'
        · exact .inr hw)
 have t3:Zg 3 (Zv eNil) (C9 mk gw x base c none none none none none none)=some (.nx (C9 mk gw x base c (some (.lst [])) none none none none none)):=Zz (Yy nil_of (by show 0<=1000;decide));have hi:ZH (Zb (eC (.int 4)) eNil) (C9 mk gw x base c (some (.lst [])) none none none none none)=some ((List.range 4).map nD):=Xg (m:=4) rfl (by decide);rcases key with⟨δ',f,w3,w4,w5,w6,w7,w8,rfl,hw⟩|⟨d,f,q,q1,q4,hf,rfl⟩
 · have hq : ∃ q, 1 <= q /\ q <= 4 /\ 1 <= fw (chR mk gw base q) /\ w3 = (chR mk gw base q).map lrD := by
    rcases hw with⟨_,hw⟩|hw
    · have r1:=g.r1
      have r4:=g.r4;have hc:=Ziq g hb;obtain⟨a,ha,hal⟩:=YK ((gw.length:Int)-1-c) (m:=4) (by decide);have ha':((gw.length:Int)-1-c).fmod 4=(a:Int):=ha
      have:=hw a (by show a<0+4;omega) gw.length (by
       rw [Int.fmod_eq_emod_of_nonneg _ (by decide)]at ha' ⊢;omega)
      omega
    · exact hw
   obtain⟨q,q1,q4,hf,rfl⟩:=hq;refine⟨q,_,ZhJ g hb q1 q4 hf,Yz (δ:=C9 mk gw x base c none none none none none none) rfl ?_⟩;rw [ZaA,Zp t3,Zp (Ym hi f)];exact Yx rfl
 · refine⟨q,_,ZhJ g hb q1 q4 hf,Yz (δ:=C9 mk gw x base c none none none none none none) rfl ?_⟩
   rw [ZaA,Zp t3];exact ZcE (Ym hi f)
end
end K44
namespace K44
open DL L2
theorem Zb3{α:Type} [BEq α] [LawfulBEq α]:∀(l S:List α),l.Nodup->(∀x∈l,x∈S)->l.length<=S.length
 | [],_,_,_=>Nat.zero_le _
 |x::l,S,hn,hs=>by
  have hx:=hs x List.mem_cons_self;rw [List.nodup_cons]at hn;have:=Zb3 l (S.erase x) hn.2 λy hy=>(List.mem_erase_of_ne (λ(z:y=x)=>hn.1 (by rw [<-z];exact hy))).mpr (hs y (List.mem_cons_of_mem _ hy))
  rw [List.length_erase_of_mem hx]at this;have h0:=List.length_pos_of_mem hx;rw [List.length_cons];omega
abbrev tkK(tk:List Nat):List Key:=tk.map λt:Nat=>(.inl (t:Int):Key)
theorem ZfE{u t:Nat}(h:u≠t):¬((.inl (u:Int):Key) = .inl (t:Int)):=λz=>by
 have:=Sum.inl.inj z;omega
theorem ZaI(t:Nat):∀tk:List Nat,XC (.inl (t:Int)) (tkK tk)=decide (t∈tk)
 | []=>by simp [XC,tkK]
 |u::tk=>by
  show(decide ((.inl (u:Int):Key) = .inl (t:Int))||XC (.inl (t:Int)) (tkK tk))=_;rw [ZaI t tk]
  by_cases h:u=t
  · subst h
    simp
  · have h2:¬t=u:=λz=>h z.symm
    simp [h2,ZfE h]
abbrev Al:=List (Nat×List Nat)
def ks(al:Al):List Nat:=al.map (·.1)
def alD(al:Al):D := .dct (tkK (ks al)) (al.map λp=>D.str p.2)
theorem Zdo:∀{al:Al}{r:Nat}{t:List Nat},(ks al).Nodup->(r,t)∈al->Ug (.inl (r:Int)) (tkK (ks al)) (al.map λp=>D.str p.2)=some (.str t)
 |(u,x)::al,r,t,hn,h=>by
  show(if(.inl (u:Int):Key) = .inl (r:Int)then some (D.str x)else Ug (.inl (r:Int)) (tkK (ks al)) (al.map λp=>D.str p.2))=_;have hn':=List.nodup_cons.mp (show(u::ks al).Nodup from hn);rcases List.mem_cons.mp h with e|h
  · cases e;rw [if_pos rfl]
  · have:u≠r:=λz=>hn'.1 (List.mem_map.mpr ⟨(r,t),h,z.symm⟩)
    rw [if_neg (ZfE this)];exact Zdo hn'.2 h
theorem ZfF{al:Al}{r:Nat}{t:List Nat}(hn:(ks al).Nodup)(h:(r,t)∈al):Vq (alD al) (nD r)=some (.str t):=Zdo hn h
theorem Ze0(t:Nat)(al:Al):inK true (nD t) (alD al)=some (.bl (!decide (t∈ks al))):=by
 show some (D.bl (true != XC (.inl (t:Int)) (tkK (ks al))))=_;rw [ZaI];cases decide (t∈ks al)<;>rfl
theorem Zir{i:Nat}{κ ε:DL.Env->Option D}{δ:DL.Env}{al:Al}{t:Nat}{w:List Nat}(h1:Za i δ=some (alD al))(h2:κ δ=some (nD t))(h3:ε δ=some (.str w))(hn:t∉ks al)(hl:al.length<=1000):Uh i κ ε δ=some (.nx (δ.set i (some (alD (al++[(t,w)]))))):=by
 unfold Uh;rw [h1,h2,h3];show(if(tkK (ks al)).length<PySem.sizeLine then some (Out.nx (δ.set i (some (UL (tkK (ks al)) (al.map λp=>D.str p.2) (.inl (t:Int)) (.str w)))))else none)=_;rw [if_pos (by rw [List.length_map];unfold ks;rw [List.length_map,PySem.sizeLine_eq];omega)];unfold UL alD;rw [ZaI,decide_eq_false hn,if_neg (by simp)];unfold tkK ks;rw [List.map_append,List.map_append,List.map_append]
 rfl
section
variable{mk:List Nat}{gw:Gw}
structure LOk(mk:List Nat)(gw:Gw)(al:Al):Prop where
 nd:(ks al).Nodup
 wk:∀r t,(r,t)∈al->r<gw.length/\K44.wk mk gw 0 t=some r/\t.length<=al.length/\∀c∈t,c∈mk
 z:0∈ks al
theorem LOk.len{al:Al}(h:LOk mk gw al):al.length<=gw.length:=by
 have:=Zb3 (ks al) (List.range gw.length) h.nd λx hx=>by
  obtain⟨p,hp,rfl⟩:=List.mem_map.mp hx;exact List.mem_range.mpr (h.wk p.1 p.2 hp).1
 rw [List.length_range]at this;unfold ks at this
 rwa [List.length_map]at this
def ldS(mk:List Nat)(gw:Gw)(p:Nat×List Nat)(al:Al)(k:Nat):Al:=match gat gw p.1 k with
 |some t=>if t∈ks al then al else al++[(t,p.2++[mk.getD k 0])]
 |none=>al
theorem Zis(g:GOk mk gw){p:Nat×List Nat}{al:Al}(h:LOk mk gw al)(hp:p∈al){k:Nat}(hk:k<mk.length):LOk mk gw (ldS mk gw p al k)/\(∃ex,ldS mk gw p al k=al++ex)/\∀t,gat gw p.1 k=some t->t∈ks (ldS mk gw p al k):=by
 unfold ldS;cases e:gat gw p.1 k with
 |none=>exact⟨h,⟨[],by simp⟩,λt z=>by cases z⟩
 |some t=>
  dsimp only
  by_cases ht:t∈ks al
  · rw [if_pos ht]
    exact⟨h,⟨[],by simp⟩,λt' z=>by cases z;exact ht⟩
  · rw [if_neg ht]
    obtain⟨w1,w2,w3,w4⟩:=h.wk p.1 p.2 hp;have ek:ks (al++[(t,p.2++[mk.getD k 0])])=ks al++[t]:=by unfold ks;rw [List.map_append];rfl
    refine⟨⟨?_,λr x hx => ?_,by rw [ek];exact List.mem_append_left _ h.z⟩,⟨_,rfl⟩,λt' z=>by cases z;rw [ek];exact List.mem_append_right _ (List.mem_singleton.mpr rfl)⟩
    · rw [ek]
      exact List.nodup_append.mpr ⟨h.nd,by simp,λa ha b hb e=>by rw [List.mem_singleton.mp hb]at e;exact ht (e▸ha)⟩
    · rw [List.length_append]
      rcases List.mem_append.mp hx with z|z
      · obtain⟨a1,a2,a3,a4⟩:=h.wk r x z
        exact⟨a1,a2,by omega,a4⟩
      · cases List.mem_singleton.mp z
        refine⟨g.lt _ _ _ e,?_,by rw [List.length_append];show p.2.length+1<=al.length+1;omega,λc hc => ?_⟩
        · rw [QA,w2]
          show K44.wk mk gw p.1 [mk.getD k 0]=some t;rw [Jr,UQ g.nd hk,e];rfl
        · rcases List.mem_append.mp hc with y|y
          · exact w4 c y
          · rw [List.mem_singleton.mp y];exact ZhF hk
noncomputable def l6:DL.Env->Option Out:=(Zg 6 (eOp ixD (eOp ixD (Za 1) (eOp ixD (Za 3) (Za 4))) (Za 5)))
noncomputable def lT:DL.Env->Option Bool:=(Xa (xB (Xx (Za 6))) (xB (eOp (inK true) (Za 6) (Za 2))))
noncomputable def lP:DL.Env->Option Out:=(Uh 2 (Za 6) (eOp addX (eOp Vq (Za 2) (eOp ixD (Za 3) (Za 4))) (eOp ixD (Za 0) (Za 5))))
noncomputable def lI:DL.Env->Option Out:=(sIf lT (Zd lP (ZW 3 (Za 6))) sNext)
noncomputable def lF:DL.Env->Option Out:=(ZB (ZH (Zb (eCB lenD (Zb (Za 0) eNil)) eNil)) (Zo 5) (Zd l6 lI))
noncomputable def lW:DL.Env->Option Bool:=(xB (eOp (ZQ λi j=>decide (i<j)) (Za 4) (eCB lenD (Zb (Za 3) eNil))))
noncomputable def lA:DL.Env->Option Out:=(Zg 4 (eOp addX (Za 4) (eC (.int 1))))
theorem Ze1:f_QM=Zd (Zg 2 (Qk (eC (.int 0)) (eC (.str [])))) (Zd (Zg 3 (Zv (Zb (eC (.int 0)) eNil))) (Zd (Zg 4 (eC (.int 0))) (Zd (VU lW (Zd lF lA)) (ZA (Za 2))))):=rfl
abbrev L7(mk:List Nat)(gw:Gw)(v2 v3 v4 v5 v6:Option D):DL.Env:=[some (.str mk),some (gwD gw),v2,v3,v4,v5,v6]
theorem ZjT(g:GOk mk gw){al:Al}(h:LOk mk gw al){a k:Nat}{p:Nat×List Nat}(ha:al[a]? = some p)(hk:k<mk.length)(v6:Option D):∃w6,Zd l6 lI (L7 mk gw (some (alD al)) (some (AD (ks al))) (some (nD a)) (some (nD k)) v6)=some (.nx (L7 mk gw (some (alD (ldS mk gw p al k))) (some (AD (ks (ldS mk gw p al k)))) (some (nD a)) (some (nD k)) w6)):=by
 have hp:=List.mem_of_getElem? ha;obtain⟨w1,w2,w3,w4⟩:=h.wk p.1 p.2 hp;have hl:=h.len;have r4:=g.r4;have ea:ixD (AD (ks al)) (nD a)=some (nD p.1):=Um (by unfold ks;rw [List.map_map,List.getElem?_map,ha];rfl);have t6:l6 (L7 mk gw (some (alD al)) (some (AD (ks al))) (some (nD a)) (some (nD k)) v6)=some (.nx (L7 mk gw (some (alD al)) (some (AD (ks al))) (some (nD a)) (some (nD k)) (some (wyD (gat gw p.1 k))))):=Zz ((Zk (y:=nD k) ((Zk (x:=gwD gw) rfl ((Zk (x:=AD (ks al)) (y:=nD a) rfl rfl).trans ea)).trans (Js g w1).1) rfl).trans (ZcI g w1 hk))
 rw [Zp t6];unfold ldS;cases e:gat gw p.1 k with
 |none=>
  have et:lT (L7 mk gw (some (alD al)) (some (AD (ks al))) (some (nD a)) (some (nD k)) (some (wyD none)))=some false:=Zdi (by rfl);exact⟨_,(Ye et).trans rfl⟩
 |some t=>
  have et:lT (L7 mk gw (some (alD al)) (some (AD (ks al))) (some (nD a)) (some (nD k)) (some (wyD (some t))))=some (!decide (t∈ks al)):=ZbY (by rfl) (ZX ((Zk (x:=nD t) (y:=alD al) rfl rfl).trans (Ze0 t al)));dsimp only
  by_cases ht:t∈ks al
  · rw [if_pos ht]
    rw [decide_eq_true ht]at et;exact⟨_,(Ye et).trans rfl⟩
  · rw [if_neg ht]
    rw [decide_eq_false ht]at et;have eV:eOp addX (eOp Vq (Za 2) (eOp ixD (Za 3) (Za 4))) (eOp ixD (Za 0) (Za 5)) (L7 mk gw (some (alD al)) (some (AD (ks al))) (some (nD a)) (some (nD k)) (some (wyD (some t))))=some (.str (p.2++[mk.getD k 0])):=(Zk ((Zk (x:=alD al) rfl ((Zk (x:=AD (ks al)) (y:=nD a) rfl rfl).trans ea)).trans (ZfF h.nd hp)) ((Zk (x:=.str mk) (y:=nD k) rfl rfl).trans (ZhG g hk))).trans (add_str (by show p.2.length+1<=100000;omega))
    have tP:lP (L7 mk gw (some (alD al)) (some (AD (ks al))) (some (nD a)) (some (nD k)) (some (wyD (some t))))=some (.nx (L7 mk gw (some (alD (al++[(t,p.2++[mk.getD k 0])]))) (some (AD (ks al))) (some (nD a)) (some (nD k)) (some (wyD (some t))))):=Zir rfl rfl eV ht (by omega);have ek:(ks (al++[(t,p.2++[mk.getD k 0])])).map nD=(ks al).map nD++[nD t]:=by unfold ks;rw [List.map_append,List.map_append];rfl
    refine⟨some (wyD (some t)),(Y7 et).trans ?_⟩;rw [Zp tP];refine(XE (xs:=(ks al).map nD) (d:=nD t) rfl rfl (by unfold ks;simp;omega)).trans ?_;rw [<-ek];rfl
theorem ZjU(g:GOk mk gw){al:Al}(h:LOk mk gw al){a:Nat}{p:Nat×List Nat}(ha:al[a]? = some p)(v5 v6:Option D):∃al' w5 w6,LOk mk gw al'/\(∃ex,al'=al++ex)/\(∀k t,k<mk.length->gat gw p.1 k=some t->t∈ks al')/\lF (L7 mk gw (some (alD al)) (some (AD (ks al))) (some (nD a)) v5 v6)=some (.nx (L7 mk gw (some (alD al')) (some (AD (ks al'))) (some (nD a)) w5 w6)):=by
 have m3:=g.m3
 obtain⟨δ',f,al',w5,w6,e,k1,⟨ex,k2⟩,k3⟩:=Y0 (γ:=Zo 5) (φ:=Zd l6 lI) (λk δ=>∃al' w5 w6,δ=L7 mk gw (some (alD al')) (some (AD (ks al'))) (some (nD a)) w5 w6/\LOk mk gw al'/\(∃ex,al'=al++ex)/\∀j t,j<k->gat gw p.1 j=some t->t∈ks al') ((List.range mk.length).map nD) 0 (L7 mk gw (some (alD al)) (some (AD (ks al))) (some (nD a)) v5 v6) ⟨al,v5,v6,rfl,h,⟨[],by simp⟩,λj t hj=>absurd hj (by omega)⟩ (by
  rintro k x δ hx ⟨al',w5,w6,rfl,k1,⟨ex,k2⟩,k3⟩
  have hk:k<mk.length:=by
   have:=(List.getElem?_eq_some_iff.mp hx).1
   rwa [List.length_map,List.length_range]at this
  rw [List.getElem?_map,List.getElem?_range hk]at hx;cases hx;rw [Nat.zero_add]at k3 ⊢;have ha':al'[a]? = some p:=by rw [k2,List.getElem?_append_left (List.getElem?_eq_some_iff.mp ha).1];exact ha
  obtain⟨y6,ht⟩:=ZjT g k1 ha' hk w6;obtain⟨o1,⟨ex2,o2⟩,o3⟩:=Zis g k1 (List.mem_of_getElem? ha') hk;refine⟨L7 mk gw (some (alD al')) (some (AD (ks al'))) (some (nD a)) (some (nD k)) w6,rfl,_,ht,ldS mk gw p al' k,_,_,rfl,o1,⟨ex++ex2,by rw [o2,k2,List.append_assoc]⟩,λj t hj e => ?_⟩
  by_cases q:j=k
  · subst q;exact o3 t e
  · have:=k3 j t (by omega) e
    rw [o2];unfold ks at this ⊢;rw [List.map_append];exact List.mem_append_left _ this)
 subst e;rw [List.length_map,List.length_range,Nat.zero_add]at k3;exact⟨al',w5,w6,k1,⟨ex,k2⟩,k3,Ym (Xg (m:=mk.length) (Zh ((ZN (Zh (x:=.str mk) rfl nil_of)).trans (len_str (by omega))) nil_of) (by omega)) f⟩
theorem Ze2(g:GOk mk gw):∃al,LOk mk gw al/\(∀r,r<gw.length->r∈ks al)/\Jl [.str mk,gwD gw]=some (alD al):=by
 have r4:=g.r4;have r1:=g.r1
 have h0:LOk mk gw [(0,[])]:=⟨by simp [ks],λr t h=>by
  cases List.mem_singleton.mp h;exact⟨by omega,rfl,Nat.zero_le _,λc hc=>by cases hc⟩,by simp [ks]⟩
 obtain⟨δ',f,al,a,w5,w6,e,k1,k2,k3⟩:=Zcp (τ:=lW) (φ:=Zd lF lA) (λδ=>∃al a w5 w6,δ=L7 mk gw (some (alD al)) (some (AD (ks al))) (some (nD a)) w5 w6/\LOk mk gw al/\a<=al.length/\∀i p,i<a->al[i]? = some p->∀k t,k<mk.length->gat gw p.1 k=some t->t∈ks al)
  (λδ=>∃al a w5 w6,δ=L7 mk gw (some (alD al)) (some (AD (ks al))) (some (nD a)) w5 w6/\LOk mk gw al/\al.length<=a/\∀i p,i<a->al[i]? = some p->∀k t,k<mk.length->gat gw p.1 k=some t->t∈ks al)
  (λδ=>match Za 4 δ with|some (.int i)=>10-i.toNat|_=>0) (by
    rintro δ ⟨al,a,w5,w6,rfl,k1,k2,k3⟩
    have hl:=k1.len;have et:lW (L7 mk gw (some (alD al)) (some (AD (ks al))) (some (nD a)) w5 w6)=some (decide ((a:Int)<(al.length:Int))):=ZX ((Zk (x:=nD a) (y:=.int (al.length:Int)) rfl ((ZN (Zh (x:=AD (ks al)) rfl nil_of)).trans (len_lst.trans (by unfold ks;rw [List.length_map,List.length_map])))).trans rfl)
    by_cases ha:a<al.length
    · rw [decide_eq_true (by omega)]at et
      obtain⟨al',y5,y6,o1,⟨ex,o2⟩,o3,tf⟩:=ZjU g k1 (List.getElem?_eq_getElem ha) w5 w6;have tA:lA (L7 mk gw (some (alD al')) (some (AD (ks al'))) (some (nD a)) y5 y6)=some (.nx (L7 mk gw (some (alD al')) (some (AD (ks al'))) (some (nD (a+1))) y5 y6)):=Zz ((Zk (x:=nD a) (y:=.int 1) rfl rfl).trans (add_int _ _));refine .inr ⟨et,_,by rw [Zp tf];exact tA,⟨al',a+1,y5,y6,rfl,o1,by rw [o2,List.length_append];omega,λi p hi e k t hk ht => ?_⟩,?_⟩
      · by_cases q:i=a
        · subst q
          rw [o2,List.getElem?_append_left ha,List.getElem?_eq_getElem ha]at e;cases e;exact o3 k t hk ht
        · rw [o2,List.getElem?_append_left (by omega)]at e
          have:=k3 i p (by omega) e k t hk ht;rw [o2];unfold ks at this ⊢;rw [List.map_append];exact List.mem_append_left _ this
      · show 10-((a+1:Nat):Int).toNat<10-(a:Int).toNat
        omega
    · rw [decide_eq_false (by omega)]at et
      exact .inl ⟨et,al,a,w5,w6,rfl,k1,by omega,k3⟩) (L7 mk gw (some (alD [(0,[])])) (some (AD [0])) (some (nD 0)) none none) ⟨[(0,[])],0,none,none,rfl,h0,Nat.zero_le _,λi p hi=>absurd hi (by omega)⟩
 subst e;refine⟨al,k1,?_,Yz (δ:=L7 mk gw none none none none none) rfl ?_⟩
 · intro r
   induction r with
   |zero=>exact λ_=>k1.z
   |succ r ih=>
    intro hr;obtain⟨p,hp,e⟩:=List.mem_map.mp (ih (by omega));obtain⟨i,hi,e2⟩:=List.mem_iff_getElem.mp hp;obtain⟨k,hk,e3⟩:=g.cyc r (by omega);rw [Nat.mod_eq_of_lt hr]at e3;exact k3 i p (by omega) (by rw [List.getElem?_eq_getElem hi,e2]) k (r+1) hk (by rw [e];exact e3)
 · have t2:Zg 2 (Qk (eC (.int 0)) (eC (.str []))) (L7 mk gw none none none none none)=some (.nx (L7 mk gw (some (alD [(0,[])])) none none none none)):=rfl
   have t3:Zg 3 (Zv (Zb (eC (.int 0)) eNil)) (L7 mk gw (some (alD [(0,[])])) none none none none)=some (.nx (L7 mk gw (some (alD [(0,[])])) (some (AD [0])) none none none)):=Zz (Yy (Zh (x:=.int 0) rfl nil_of) (by show 1<=1000;decide));have t4:Zg 4 (eC (.int 0)) (L7 mk gw (some (alD [(0,[])])) (some (AD [0])) none none none)=some (.nx (L7 mk gw (some (alD [(0,[])])) (some (AD [0])) (some (nD 0)) none none)):=rfl
   rw [Ze1,Zp t2,Zp t3,Zp t4,Zp f];exact Yx rfl
end
end K44
namespace K44
open DL L2
theorem Zdp{i j:Nat}{ε:DL.Env->Option D}{δ:DL.Env}{x y:D}(h:ε δ=some (.tup [x,y])):XD (ZS 2 (ZG i (ZG j gsNil))) ε δ=some (.nx ((δ.set i (some x)).set j (some y))):=by
 unfold XD;rw [h];rfl
theorem ZkH(t:Nat):∀P:List Nat,t∈P->((P.map nD).map val).findIdx? (λz=>eqV z (val (nD t)))=some (mi P t)
 |p::P,h=>by
  rw [List.map_cons,List.map_cons,List.findIdx?_cons];unfold mi;rw [List.findIdx_cons];show(if((p:Int) == (t:Int))=true then some 0 else _)=_
  by_cases e:p=t
  · subst e;simp
  · have e3:((p:Int) == (t:Int))=false:=by simp;omega
    have hm:t∈P:=by
     rcases List.mem_cons.mp h with z|z
     · exact absurd z.symm e
     · exact z
    rw [e3,if_neg Bool.false_ne_true,ZkH t P hm,decide_eq_false e];rfl
theorem ZhK{a b:DL.Env->Option D}{δ:DL.Env}{P:List Nat}{t:Nat}(h1:a δ=some (AD P))(h2:b δ=some (nD t))(h:t∈P):eLM lindexD a b δ=some (nD (mi P t)):=by
 unfold eLM;rw [h1,h2];dsimp only;rw [ZkF,if_pos (by rfl)];unfold lindexD;rw [ZkH t P h]
theorem ZfG{P:List Nat}{t:Nat}(h:t∈P):mi P t<P.length/\P.getD (mi P t) 0=t:=by
 have hl:mi P t<P.length:=List.findIdx_lt_length_of_exists ⟨t,h,decide_eq_true rfl⟩;refine⟨hl,?_⟩;rw [List.getD_eq_getElem?_getD,List.getElem?_eq_getElem hl];have:decide (P[mi P t]=t)=true:=List.findIdx_getElem (p:=λx=>decide (x=t)) (w:=hl);exact of_decide_eq_true this
theorem US{α:Type}(f:Nat->Nat->α)(sp:Nat):∀nb,((List.range nb).flatMap λi=>(List.range sp).map (f i)).length=nb*sp
 |0=>by simp
 |nb+1=>by
  rw [List.range_succ,List.flatMap_append,List.length_append,US f sp nb];simp [Nat.succ_mul]
theorem Jv{α:Type}(f:Nat->Nat->α)(sp:Nat):∀nb i k,i<nb->k<sp->((List.range nb).flatMap λi=>(List.range sp).map (f i))[i*sp+k]? = some (f i k)
 |0,i,k,hi,_=>absurd hi (by omega)
 |nb+1,i,k,hi,hk=>by
  rw [List.range_succ,List.flatMap_append]
  by_cases h:i<nb
  · have hlt : i * sp + k < nb * sp := by
     have:(i+1)*sp<=nb*sp:=Nat.mul_le_mul_right sp h;rw [Nat.succ_mul]at this;omega
    rw [List.getElem?_append_left (by rw [US];exact hlt)];exact Jv f sp nb i k h hk
  · have:i=nb:=by omega
    subst this;rw [List.getElem?_append_right (by rw [US];omega),US,Nat.add_sub_cancel_left];simp [hk]
def nw(cs:List Int)(n L s:Nat):Nat:=(((s:Int)+(cs.getD ((L:Int).fmod 8).toNat 0).fdiv 3).fmod n).toNat
def pk(cs:List Int)(n dp sp L k s:Nat):Nat:=if 0<dp then k / (sp / n)else nw cs n L s
def lat(cs:List Int)(n dp sp L k s:Nat):Nat:=if 0<dp then k % (sp / n)*n+nw cs n L s else 0
def chp(rows:List (List Pr))(i p:Nat):Pr:=(rows.getD i []).getD p ([],0)
def Xh(base:List Nat)(rows:List (List Pr))(cs:List Int)(n dp sp i k s:Nat):Pr:=((chp rows i (pk cs n dp sp (i*sp+k) k s)).1,mi base (chp rows i (pk cs n dp sp (i*sp+k) k s)).2*sp+lat cs n dp sp (i*sp+k) k s)
def Yu(base:List Nat)(rows:List (List Pr))(cs:List Int)(n dp sp i k:Nat):List Pr:=(List.range n).map (Xh base rows cs n dp sp i k)
def rwD(r:List Pr):D := .tup (r.map prD)
theorem Us(cs:List Int){n:Nat}(hn:0<n)(L s:Nat):((s:Int)+(cs.getD ((L:Int).fmod 8).toNat 0).fdiv 3).fmod n=(nw cs n L s:Int)/\nw cs n L s<n:=by
 obtain⟨a,ha,hal⟩:=YK ((s:Int)+(cs.getD ((L:Int).fmod 8).toNat 0).fdiv 3) hn;unfold nw;rw [ha,Int.toNat_natCast];exact⟨rfl,hal⟩
theorem ZfH(cs:List Int){n:Nat}(L:Nat){s s':Nat}(h1:s<n)(h2:s'<n)(e:nw cs n L s=nw cs n L s'):s=s':=by
 have a1:=(Us cs (n:=n) (by omega) L s).1;have a2:=(Us cs (n:=n) (by omega) L s').1;rw [<-e]at a2;generalize (cs.getD ((L:Int).fmod 8).toNat 0).fdiv 3=x at a1 a2;rw [Int.fmod_eq_emod_of_nonneg _ (by omega)]at a1 a2;rw [<-a2]at a1;have h1':(((s:Int)+x)-((s':Int)+x)) % n=0:=Int.emod_eq_emod_iff_emod_sub_eq_zero.mp a1;have h2':(((s':Int)+x)-((s:Int)+x)) % n=0:=Int.emod_eq_emod_iff_emod_sub_eq_zero.mp a1.symm
 by_cases c:s'<=s
 · rw [Int.emod_eq_of_lt (by omega) (by omega)]at h1'
   omega
 · rw [Int.emod_eq_of_lt (by omega) (by omega)]at h2'
   omega
structure Dl(rows:List (List Pr))(n dp sp:Nat):Prop where
 n1:1<=n
 n3:n<=3
 d3:dp<=3
 s:sp=n ^ dp
 s8:sp<=8
 cn:∀row∈rows,n<=row.length
theorem Dl.s1{rows:List (List Pr)}{n dp sp:Nat}(h:Dl rows n dp sp):1<=sp:=by
 rw [h.s];exact Nat.pow_pos h.n1
theorem Dl.half{rows:List (List Pr)}{n dp sp:Nat}(h:Dl rows n dp sp)(hd:0<dp):sp / n=n ^ (dp-1)/\1<=sp / n/\sp=n*(sp / n):=by
 have e:sp=n*n ^ (dp-1):=by
  rw [h.s];obtain⟨d,rfl⟩:∃d,dp=d+1:=⟨dp-1,by omega⟩
  rw [Nat.pow_succ,Nat.mul_comm,Nat.add_sub_cancel]
 have e2:sp / n=n ^ (dp-1):=by
  rw [e];exact Nat.mul_div_cancel_left _ h.n1
 exact⟨e2,by rw [e2];exact Nat.pow_pos h.n1,by rw [e2];exact e⟩
theorem Ut{rows:List (List Pr)}{n dp sp:Nat}(h:Dl rows n dp sp)(cs:List Int){L k s:Nat}(hk:k<sp):pk cs n dp sp L k s<n:=by
 unfold pk
 by_cases hd:0<dp
 · rw [if_pos hd]
   obtain⟨_,h1,e⟩:=h.half hd;rw [Nat.div_lt_iff_lt_mul h1,<-e];exact hk
 · rw [if_neg hd]
   exact(Us cs h.n1 L s).2
theorem Zit{rows:List (List Pr)}{n dp sp:Nat}(h:Dl rows n dp sp)(cs:List Int){L k s:Nat}:lat cs n dp sp L k s<sp:=by
 unfold lat
 by_cases hd:0<dp
 · rw [if_pos hd]
   obtain⟨_,h1,e⟩:=h.half hd;have h2:=(Us cs h.n1 L s).2;have h3:=Nat.mod_lt k h1;have h4:(k % (sp / n)+1)*n<=(sp / n)*n:=Nat.mul_le_mul_right n h3;rw [Nat.succ_mul,Nat.mul_comm (sp / n) n,<-e]at h4;omega
 · rw [if_neg hd]
   exact h.s1
section
variable{mk:List Nat}{gw:Gw}{base:List Nat}{rows:List (List Pr)}{n dp sp q:Nat}{cs:List Int}
noncomputable def d13:DL.Env->Option Out:=(Zg 13 (eOp modW (eOp addX (Za 12) (eOp fdivW (eOp ixD (Za 4) (eOp modW (eCB lenD (Zb (Za 7) eNil)) (eC (.int 8)))) (eC (.int 3)))) (Za 2)))
noncomputable def d14:DL.Env->Option Out:=(Zg 14 (Za 13))
noncomputable def d15:DL.Env->Option Out:=(Zg 15 (eC (.int 0)))
noncomputable def dT:DL.Env->Option Bool:=(xB (eOp (ZQ λi j=>decide (j<i)) (Za 3) (eC (.int 0))))
noncomputable def dH:DL.Env->Option D:=(eOp fdivW (Za 5) (Za 2))
noncomputable def dP:DL.Env->Option Out:=(Zg 14 (eOp fdivW (Za 10) dH))
noncomputable def dL:DL.Env->Option Out:=(Zg 15 (eOp addX (eOp mulX (eOp modW (Za 10) dH) (Za 2)) (Za 13)))
noncomputable def dI:DL.Env->Option Out:=(sIf dT (Zd dP dL) sNext)
noncomputable def dG:DL.Env->Option Out:=(XD (ZS 2 (ZG 16 (ZG 17 gsNil))) (eOp ixD (eOp ixD (Za 1) (eLM lindexD (Za 0) (Za 9))) (Za 14)))
noncomputable def dA:DL.Env->Option Out:=(ZW 11 (Yc (Zb (Za 16) (Zb (eOp addX (eOp mulX (eLM lindexD (Za 0) (Za 17)) (Za 5)) (Za 15)) eNil))))
noncomputable def dS:DL.Env->Option Out:=Zd d13 (Zd d14 (Zd d15 (Zd dI (Zd dG dA))))
noncomputable def dR:DL.Env->Option Out:=ZB (ZH (Zb (Za 2) eNil)) (Zo 12) dS
noncomputable def dK:DL.Env->Option Out:=Zd (Zg 11 (Zv eNil)) (Zd dR (Zd (ZW 7 (Za 9)) (ZW 8 (eCB Z0 (Zb (Za 11) eNil)))))
noncomputable def dB:DL.Env->Option Out:=ZB (ZH (Zb (Za 5) eNil)) (Zo 10) dK
noncomputable def dM:DL.Env->Option Out:=(ZB (ZH (Zb (Za 3) eNil)) (Zo 6) (Zg 5 (eOp mulX (Za 5) (Za 2))))
theorem Zcr:f_QF=Zd (Zg 5 (eC (.int 1))) (Zd dM (Zd (Zg 7 (Zv eNil)) (Zd (Zg 8 (Zv eNil)) (Zd (ZB (ZJ (Za 0)) (Zo 9) dB) (ZA (Yc (Zb (eCB Z0 (Zb (Za 7) eNil)) (Zb (eCB Z0 (Zb (Za 8) eNil)) eNil)))))))):=rfl
abbrev E18(base:List Nat)(rows:List (List Pr))(n dp:Nat)(cs:List Int)(sp:Nat)(v6 v7 v8 v9 v10 v11 v12 v13 v14 v15 v16 v17:Option D):DL.Env:=[some (AD base),some (.lst (rows.map lrD)),some (nD n),some (nD dp),some (IL cs),some (nD sp),v6,v7,v8,v9,v10,v11,v12,v13,v14,v15,v16,v17]
theorem ZjV(h:Dl rows n dp sp){L k s:Nat}(v6 v7 v8 v9 v11 v12 v16 v17:Option D):dI (E18 base rows n dp cs sp v6 v7 v8 v9 (some (nD k)) v11 v12 (some (nD (nw cs n L s))) (some (nD (nw cs n L s))) (some (nD 0)) v16 v17)=some (.nx (E18 base rows n dp cs sp v6 v7 v8 v9 (some (nD k)) v11 v12 (some (nD (nw cs n L s))) (some (nD (pk cs n dp sp L k s))) (some (nD (lat cs n dp sp L k s))) v16 v17)):=by
 have n1:=h.n1;have n3:=h.n3;have s8:=h.s8;have et:dT (E18 base rows n dp cs sp v6 v7 v8 v9 (some (nD k)) v11 v12 (some (nD (nw cs n L s))) (some (nD (nw cs n L s))) (some (nD 0)) v16 v17)=some (decide ((0:Int)<(dp:Int))):=ZX ((Zk (x:=nD dp) (y:=.int 0) rfl rfl).trans rfl);unfold pk lat
 by_cases hd:0<dp
 · rw [if_pos hd,if_pos hd]
   rw [decide_eq_true (by omega)]at et;obtain⟨_,h1,_⟩:=h.half hd;have hle:sp / n<=sp:=Nat.div_le_self _ _;have eH:∀v14 v15,dH (E18 base rows n dp cs sp v6 v7 v8 v9 (some (nD k)) v11 v12 (some (nD (nw cs n L s))) v14 v15 v16 v17)=some (nD (sp / n)):=λv14 v15=>(Zk (x:=nD sp) (y:=nD n) rfl rfl).trans ((Xq (by omega) (by omega)).trans (by rw [<-Int.ofNat_fdiv]))
   have tP:dP (E18 base rows n dp cs sp v6 v7 v8 v9 (some (nD k)) v11 v12 (some (nD (nw cs n L s))) (some (nD (nw cs n L s))) (some (nD 0)) v16 v17)=some (.nx (E18 base rows n dp cs sp v6 v7 v8 v9 (some (nD k)) v11 v12 (some (nD (nw cs n L s))) (some (nD (k / (sp / n)))) (some (nD 0)) v16 v17)):=Zz ((Zk (x:=nD k) rfl (eH _ _)).trans ((Xq (by omega) (by omega)).trans (by rw [<-Int.ofNat_fdiv])))
   have tL:dL (E18 base rows n dp cs sp v6 v7 v8 v9 (some (nD k)) v11 v12 (some (nD (nw cs n L s))) (some (nD (k / (sp / n)))) (some (nD 0)) v16 v17)=some (.nx (E18 base rows n dp cs sp v6 v7 v8 v9 (some (nD k)) v11 v12 (some (nD (nw cs n L s))) (some (nD (k / (sp / n)))) (some (nD (k % (sp / n)*n+nw cs n L s))) v16 v17)):=Zz ((Zk (y:=nD (nw cs n L s)) ((Zk (y:=nD n) ((Zk (x:=nD k) rfl (eH _ _)).trans ((Yt (by omega)).trans (by rw [<-Int.ofNat_fmod]))) rfl).trans (Ul (by omega) (by omega))) rfl).trans ((add_int _ _).trans (by rw [nD,Int.natCast_add,Int.natCast_mul])))
   refine(Y7 et).trans ?_;rw [Zp tP];exact tL
 · rw [if_neg hd,if_neg hd]
   rw [decide_eq_false (by omega)]at et;exact(Ye et).trans rfl
theorem QD(hb:Base gw base)(hc:Ch mk gw base q rows)(h:Dl rows n dp sp){i p:Nat}(hi:i<base.length)(hp:p<n):rows[i]? = some (rows.getD i [])/\(rows.getD i [])[p]? = some (chp rows i p)/\BOk mk gw (base.getD i 0) q (chp rows i p)/\(chp rows i p).2∈base:=by
 have hl:i<rows.length:=by rw [hc.ln];exact hi
 have e1:rows[i]? = some (rows.getD i []):=by rw [List.getD_eq_getElem?_getD,List.getElem?_eq_getElem hl];rfl
 have hn:=h.cn _ (List.mem_of_getElem? e1)
 have e2:(rows.getD i [])[p]? = some (chp rows i p):=by
  unfold chp;rw [List.getD_eq_getElem?_getD (l:=rows.getD i []),List.getElem?_eq_getElem (by omega)];rfl
 have e3:base[i]? = some (base.getD i 0):=by rw [List.getD_eq_getElem?_getD,List.getElem?_eq_getElem hi];rfl
 obtain⟨o1,_,_⟩:=hc.ok i _ _ e1 e3;obtain⟨o2,o3⟩:=o1 _ (List.mem_of_getElem? e2);exact⟨e1,e2,o2,o3⟩
theorem ZjW(hb:Base gw base)(hc:Ch mk gw base q rows)(h:Dl rows n dp sp)(hcs:cs.length=20){i k s:Nat}(hi:i<base.length)(hk:k<sp)(hs:s<n){hm:List Nat}(hl:hm.length=i*sp+k)(acc:List Pr)(ha:acc.length<=100)(v6 v8 v13 v14 v15 v16 v17:Option D):∃w13 w14 w15 w16 w17,dS (E18 base rows n dp cs sp v6 (some (AD hm)) v8 (some (nD (base.getD i 0))) (some (nD k)) (some (.lst (acc.map prD))) (some (nD s)) v13 v14 v15 v16 v17)=some (.nx (E18 base rows n dp cs sp v6 (some (AD hm)) v8 (some (nD (base.getD i 0))) (some (nD k)) (some (.lst ((acc++[Xh base rows cs n dp sp i k s]).map prD))) (some (nD s)) w13 w14 w15 w16 w17)):=by
 have n1:=h.n1;have n3:=h.n3;have s8:=h.s8;obtain⟨a8,e8,l8⟩:=YK ((i*sp+k:Nat):Int) (m:=8) (by decide);have e8':((i*sp+k:Nat):Int).fmod 8=(a8:Int):=e8;obtain⟨ew,lw⟩:=Us cs (n:=n) n1 (i*sp+k) s;rw [e8',Int.toNat_natCast]at ew
 have t13:d13 (E18 base rows n dp cs sp v6 (some (AD hm)) v8 (some (nD (base.getD i 0))) (some (nD k)) (some (.lst (acc.map prD))) (some (nD s)) v13 v14 v15 v16 v17)=some (.nx (E18 base rows n dp cs sp v6 (some (AD hm)) v8 (some (nD (base.getD i 0))) (some (nD k)) (some (.lst (acc.map prD))) (some (nD s)) (some (nD (nw cs n (i*sp+k) s))) v14 v15 v16 v17)):=by
  have eL:eOp modW (eCB lenD (Zb (Za 7) eNil)) (eC (.int 8)) (E18 base rows n dp cs sp v6 (some (AD hm)) v8 (some (nD (base.getD i 0))) (some (nD k)) (some (.lst (acc.map prD))) (some (nD s)) v13 v14 v15 v16 v17)=some (nD a8):=(Zk (x:=nD (i*sp+k)) (y:=.int 8) ((ZN (Zh (x:=AD hm) rfl nil_of)).trans (len_lst.trans (by rw [List.length_map,hl]))) rfl).trans ((Yt (by decide)).trans (by rw [e8']))
  exact Zz ((Zk (y:=nD n) ((Zk (x:=nD s) rfl ((Zk (y:=.int 3) ((Zk (x:=IL cs) rfl eL).trans (Q9 (by omega))) rfl).trans (Xq (by decide) (by decide)))).trans (add_int _ _)) rfl).trans ((Yt (by omega)).trans (by rw [ew])))
 have t14:d14 (E18 base rows n dp cs sp v6 (some (AD hm)) v8 (some (nD (base.getD i 0))) (some (nD k)) (some (.lst (acc.map prD))) (some (nD s)) (some (nD (nw cs n (i*sp+k) s))) v14 v15 v16 v17)=some (.nx (E18 base rows n dp cs sp v6 (some (AD hm)) v8 (some (nD (base.getD i 0))) (some (nD k)) (some (.lst (acc.map prD))) (some (nD s)) (some (nD (nw cs n (i*sp+k) s))) (some (nD (nw cs n (i*sp+k) s))) v15 v16 v17)):=Zz rfl
 have t15:d15 (E18 base rows n dp cs sp v6 (some (AD hm)) v8 (some (nD (base.getD i 0))) (some (nD k)) (some (.lst (acc.map prD))) (some (nD s)) (some (nD (nw cs n (i*sp+k) s))) (some (nD (nw cs n (i*sp+k) s))) v15 v16 v17)=some (.nx (E18 base rows n dp cs sp v6 (some (AD hm)) v8 (some (nD (base.getD i 0))) (some (nD k)) (some (.lst (acc.map prD))) (some (nD s)) (some (nD (nw cs n (i*sp+k) s))) (some (nD (nw cs n (i*sp+k) s))) (some (nD 0)) v16 v17)):=Zz rfl
 have tI:=ZjV (base:=base) (cs:=cs) h (L:=i*sp+k) (k:=k) (s:=s) v6 (some (AD hm)) v8 (some (nD (base.getD i 0))) (some (.lst (acc.map prD))) (some (nD s)) v16 v17;have lp:=Ut h cs (L:=i*sp+k) (s:=s) hk;have hres:Xh base rows cs n dp sp i k s=((chp rows i (pk cs n dp sp (i*sp+k) k s)).1,mi base (chp rows i (pk cs n dp sp (i*sp+k) k s)).2*sp+lat cs n dp sp (i*sp+k) k s):=rfl
 rw [hres];unfold dS;rw [Zp t13,Zp t14,Zp t15,Zp tI];clear t13 t14 t15 tI hres;generalize nw cs n (i*sp+k) s=w;generalize pk cs n dp sp (i*sp+k) k s=p at lp ⊢;generalize lat cs n dp sp (i*sp+k) k s=lt;obtain⟨c1,c2,c3,c4⟩:=QD hb hc h hi lp;generalize chp rows i p=pr at c2 c3 c4 ⊢
 have hbm:base.getD i 0∈base:=by
  rw [List.getD_eq_getElem?_getD,List.getElem?_eq_getElem hi];exact List.getElem_mem hi
 have tG:dG (E18 base rows n dp cs sp v6 (some (AD hm)) v8 (some (nD (base.getD i 0))) (some (nD k)) (some (.lst (acc.map prD))) (some (nD s)) (some (nD w)) (some (nD p)) (some (nD lt)) v16 v17)=some (.nx (E18 base rows n dp cs sp v6 (some (AD hm)) v8 (some (nD (base.getD i 0))) (some (nD k)) (some (.lst (acc.map prD))) (some (nD s)) (some (nD w)) (some (nD p)) (some (nD lt)) (some (.str pr.1)) (some (nD pr.2)))):=by
  refine Zdp ((Zk (x:=lrD (rows.getD i [])) (y:=nD p) ((Zk (x:=.lst (rows.map lrD)) (y:=nD i) rfl ((ZhK (P:=base) (t:=base.getD i 0) rfl rfl hbm).trans (by rw [UQ hb.nd hi]))).trans (Um (by rw [List.getElem?_map,c1];rfl))) rfl).trans ?_);exact Um (x:=prD pr) (by rw [List.getElem?_map,c2];rfl)
 have eT:Yc (Zb (Za 16) (Zb (eOp addX (eOp mulX (eLM lindexD (Za 0) (Za 17)) (Za 5)) (Za 15)) eNil)) (E18 base rows n dp cs sp v6 (some (AD hm)) v8 (some (nD (base.getD i 0))) (some (nD k)) (some (.lst (acc.map prD))) (some (nD s)) (some (nD w)) (some (nD p)) (some (nD lt)) (some (.str pr.1)) (some (nD pr.2)))=some (prD (pr.1,mi base pr.2*sp+lt)):=V0 (Zh (x:=.str pr.1) rfl (Zh (x:=nD (mi base pr.2*sp+lt)) ((Zk (y:=nD lt) ((Zk (y:=nD sp) (ZhK (P:=base) (t:=pr.2) rfl rfl c4) rfl).trans (Ul (by omega) (by omega))) rfl).trans ((add_int _ _).trans (by rw [nD,Int.natCast_add,Int.natCast_mul]))) nil_of)) (by show 2<=1000;decide)
 refine⟨some (nD w),some (nD p),some (nD lt),some (.str pr.1),some (nD pr.2),?_⟩;rw [Zp tG];refine(XE (xs:=acc.map prD) rfl eT (by rw [List.length_map];omega)).trans ?_;rw [List.map_append];rfl
theorem ZjX(hb:Base gw base)(hc:Ch mk gw base q rows)(h:Dl rows n dp sp)(hcs:cs.length=20){i k:Nat}(hi:i<base.length)(hk:k<sp){hm:List Nat}(hl:hm.length=i*sp+k)(v6 v8 v12 v13 v14 v15 v16 v17:Option D):∃w12 w13 w14 w15 w16 w17,dR (E18 base rows n dp cs sp v6 (some (AD hm)) v8 (some (nD (base.getD i 0))) (some (nD k)) (some (.lst [])) v12 v13 v14 v15 v16 v17)=some (.nx (E18 base rows n dp cs sp v6 (some (AD hm)) v8 (some (nD (base.getD i 0))) (some (nD k)) (some (.lst ((Yu base rows cs n dp sp i k).map prD))) w12 w13 w14 w15 w16 w17)):=by
 have n3:=h.n3
 obtain⟨δ',f,w12,w13,w14,w15,w16,w17,e⟩:=Y0 (γ:=Zo 12) (φ:=dS) (λs δ=>∃w12 w13 w14 w15 w16 w17,δ=E18 base rows n dp cs sp v6 (some (AD hm)) v8 (some (nD (base.getD i 0))) (some (nD k)) (some (.lst (((List.range s).map (Xh base rows cs n dp sp i k)).map prD))) w12 w13 w14 w15 w16 w17) ((List.range n).map nD) 0 (E18 base rows n dp cs sp v6 (some (AD hm)) v8 (some (nD (base.getD i 0))) (some (nD k)) (some (.lst [])) v12 v13 v14 v15 v16 v17) ⟨_,_,_,_,_,_,rfl⟩ (by
  rintro s x δ hx ⟨w12,w13,w14,w15,w16,w17,rfl⟩
  have hs:s<n:=by
   have:=(List.getElem?_eq_some_iff.mp hx).1
   rwa [List.length_map,List.length_range]at this
  rw [List.getElem?_map,List.getElem?_range hs]at hx;cases hx;rw [Nat.zero_add];obtain⟨y13,y14,y15,y16,y17,hS⟩:=ZjW hb hc h hcs hi hk hs hl ((List.range s).map (Xh base rows cs n dp sp i k)) (by rw [List.length_map,List.length_range];omega) v6 v8 w13 w14 w15 w16 w17;refine⟨_,rfl,_,hS,some (nD s),y13,y14,y15,y16,y17,?_⟩;rw [show(List.range (s+1)).map (Xh base rows cs n dp sp i k)=(List.range s).map (Xh base rows cs n dp sp i k)++[Xh base rows cs n dp sp i k s] by rw [List.range_succ,List.map_append];rfl])
 subst e;rw [List.length_map,List.length_range,Nat.zero_add]at f;exact⟨w12,w13,w14,w15,w16,w17,Ym (Xg (m:=n) rfl (by omega)) f⟩
theorem ZjY(hb:Base gw base)(hc:Ch mk gw base q rows)(h:Dl rows n dp sp)(hcs:cs.length=20){i k:Nat}(hi:i<base.length)(hk:k<sp){hm:List Nat}(hl:hm.length=i*sp+k)(W:List (List Pr))(hW:W.length<=100)(v6 v11 v12 v13 v14 v15 v16 v17:Option D):∃w11 w12 w13 w14 w15 w16 w17,dK (E18 base rows n dp cs sp v6 (some (AD hm)) (some (.lst (W.map rwD))) (some (nD (base.getD i 0))) (some (nD k)) v11 v12 v13 v14 v15 v16 v17)=some (.nx (E18 base rows n dp cs sp v6 (some (AD (hm++[base.getD i 0]))) (some (.lst ((W++[Yu base rows cs n dp sp i k]).map rwD))) (some (nD (base.getD i 0))) (some (nD k)) w11 w12 w13 w14 w15 w16 w17)):=by
 have n3:=h.n3;have s8:=h.s8;have b4:=hb.l4;have t1:Zg 11 (Zv eNil) (E18 base rows n dp cs sp v6 (some (AD hm)) (some (.lst (W.map rwD))) (some (nD (base.getD i 0))) (some (nD k)) v11 v12 v13 v14 v15 v16 v17)=some (.nx (E18 base rows n dp cs sp v6 (some (AD hm)) (some (.lst (W.map rwD))) (some (nD (base.getD i 0))) (some (nD k)) (some (.lst [])) v12 v13 v14 v15 v16 v17)):=Zz (Yy nil_of (by show 0<=1000;decide))
 obtain⟨w12,w13,w14,w15,w16,w17,tR⟩:=ZjX hb hc h hcs hi hk hl v6 (some (.lst (W.map rwD))) v12 v13 v14 v15 v16 v17
 have hlen:hm.length<=100:=by
  have:i*sp<=3*8:=Nat.mul_le_mul (by omega) s8;omega
 generalize Yu base rows cs n dp sp i k=row at tR ⊢;generalize base.getD i 0=r at t1 tR ⊢
 have t7:ZW 7 (Za 9) (E18 base rows n dp cs sp v6 (some (AD hm)) (some (.lst (W.map rwD))) (some (nD r)) (some (nD k)) (some (.lst (row.map prD))) w12 w13 w14 w15 w16 w17)=some (.nx (E18 base rows n dp cs sp v6 (some (AD (hm++[r]))) (some (.lst (W.map rwD))) (some (nD r)) (some (nD k)) (some (.lst (row.map prD))) w12 w13 w14 w15 w16 w17)):=by
  refine(XE (xs:=hm.map nD) (d:=nD r) rfl rfl (by rw [List.length_map];omega)).trans ?_;rw [show AD (hm++[r]) = .lst (hm.map nD++[nD r]) by rw [AD,List.map_append];rfl];rfl
 have t8:ZW 8 (eCB Z0 (Zb (Za 11) eNil)) (E18 base rows n dp cs sp v6 (some (AD (hm++[r]))) (some (.lst (W.map rwD))) (some (nD r)) (some (nD k)) (some (.lst (row.map prD))) w12 w13 w14 w15 w16 w17)=some (.nx (E18 base rows n dp cs sp v6 (some (AD (hm++[r]))) (some (.lst ((W++[row]).map rwD))) (some (nD r)) (some (nD k)) (some (.lst (row.map prD))) w12 w13 w14 w15 w16 w17)):=by
  refine(XE (xs:=W.map rwD) (d:=rwD row) rfl ((ZN (Zh (x:=.lst (row.map prD)) rfl nil_of)).trans rfl) (by rw [List.length_map];omega)).trans ?_;rw [List.map_append];rfl
 refine⟨some (.lst (row.map prD)),w12,w13,w14,w15,w16,w17,?_⟩;unfold dK;rw [Zp t1,Zp tR,Zp t7];exact t8
def dHm(base:List Nat)(sp i:Nat):List Nat:=(List.range i).flatMap λi=>(List.range sp).map λ_=>base.getD i 0
def dW(base:List Nat)(rows:List (List Pr))(cs:List Int)(n dp sp i:Nat):List (List Pr):=(List.range i).flatMap λi=>(List.range sp).map (Yu base rows cs n dp sp i)
theorem Zdq(base:List Nat)(sp i:Nat):(dHm base sp i).length=i*sp:=US (λi _=>base.getD i 0) sp i
theorem ZfI(base:List Nat)(rows:List (List Pr))(cs:List Int)(n dp sp i:Nat):(dW base rows cs n dp sp i).length=i*sp:=US (Yu base rows cs n dp sp) sp i
theorem ZjZ(hb:Base gw base)(hc:Ch mk gw base q rows)(h:Dl rows n dp sp)(hcs:cs.length=20){i:Nat}(hi:i<base.length)(v6 v10 v11 v12 v13 v14 v15 v16 v17:Option D):∃w10 w11 w12 w13 w14 w15 w16 w17,dB (E18 base rows n dp cs sp v6 (some (AD (dHm base sp i))) (some (.lst ((dW base rows cs n dp sp i).map rwD))) (some (nD (base.getD i 0))) v10 v11 v12 v13 v14 v15 v16 v17)=some (.nx (E18 base rows n dp cs sp v6 (some (AD (dHm base sp (i+1)))) (some (.lst ((dW base rows cs n dp sp (i+1)).map rwD))) (some (nD (base.getD i 0))) w10 w11 w12 w13 w14 w15 w16 w17)):=by
 have s8:=h.s8;have b4:=hb.l4;have hle:i*sp<=3*8:=Nat.mul_le_mul (by omega) s8
 obtain⟨δ',f,w10,w11,w12,w13,w14,w15,w16,w17,e⟩:=Y0 (γ:=Zo 10) (φ:=dK) (λk δ=>∃w10 w11 w12 w13 w14 w15 w16 w17,δ=E18 base rows n dp cs sp v6 (some (AD (dHm base sp i++(List.range k).map λ_=>base.getD i 0))) (some (.lst ((dW base rows cs n dp sp i++(List.range k).map (Yu base rows cs n dp sp i)).map rwD))) (some (nD (base.getD i 0))) w10 w11 w12 w13 w14 w15 w16 w17) ((List.range sp).map nD) 0 (E18 base rows n dp cs sp v6 (some (AD (dHm base sp i))) (some (.lst ((dW base rows cs n dp sp i).map rwD))) (some (nD (base.getD i 0))) v10 v11 v12 v13 v14 v15 v16 v17) ⟨v10,v11,v12,v13,v14,v15,v16,v17,by simp⟩ (by
  rintro k x δ hx ⟨w10,w11,w12,w13,w14,w15,w16,w17,rfl⟩
  have hk:k<sp:=by
   have:=(List.getElem?_eq_some_iff.mp hx).1
   rwa [List.length_map,List.length_range]at this
  rw [List.getElem?_map,List.getElem?_range hk]at hx;cases hx;rw [Nat.zero_add];obtain⟨y11,y12,y13,y14,y15,y16,y17,hK⟩:=ZjY hb hc h hcs hi hk (hm:=dHm base sp i++(List.range k).map λ_=>base.getD i 0) (by rw [List.length_append,Zdq,List.length_map,List.length_range]) (dW base rows cs n dp sp i++(List.range k).map (Yu base rows cs n dp sp i)) (by rw [List.length_append,ZfI,List.length_map,List.length_range];omega) v6 w11 w12 w13 w14 w15 w16 w17
  refine⟨_,rfl,_,hK,some (nD k),y11,y12,y13,y14,y15,y16,y17,?_⟩;rw [show(List.range (k+1)).map (Yu base rows cs n dp sp i)=(List.range k).map (Yu base rows cs n dp sp i)++[Yu base rows cs n dp sp i k] by rw [List.range_succ,List.map_append];rfl,show((List.range (k+1)).map λ_=>base.getD i 0)=((List.range k).map λ_=>base.getD i 0)++[base.getD i 0] by rw [List.range_succ,List.map_append];rfl,List.append_assoc,List.append_assoc])
 subst e;rw [List.length_map,List.length_range,Nat.zero_add]at f
 have e1:dHm base sp (i+1)=dHm base sp i++(List.range sp).map λ_=>base.getD i 0:=by
  unfold dHm;rw [List.range_succ,List.flatMap_append];simp
 have e2:dW base rows cs n dp sp (i+1)=dW base rows cs n dp sp i++(List.range sp).map (Yu base rows cs n dp sp i):=by
  unfold dW;rw [List.range_succ,List.flatMap_append];simp
 rw [e1,e2];exact⟨w10,w11,w12,w13,w14,w15,w16,w17,Ym (Xg (m:=sp) rfl (by omega)) f⟩
theorem Zcs(hb:Base gw base)(hc:Ch mk gw base q rows)(h:Dl rows n dp sp)(hcs:cs.length=20):Jm [AD base,.lst (rows.map lrD),nD n,nD dp,IL cs]=some (.tup [.tup ((dHm base sp base.length).map nD),.tup ((dW base rows cs n dp sp base.length).map rwD)]):=by
 have n3:=h.n3;have d3:=h.d3;have t5:Zg 5 (eC (.int 1)) [some (AD base),some (.lst (rows.map lrD)),some (nD n),some (nD dp),some (IL cs),none,none,none,none,none,none,none,none,none,none,none,none,none]=some (.nx (E18 base rows n dp cs 1 none none none none none none none none none none none none)):=Zz rfl
 obtain⟨δ1,f1,w6,e1⟩:=Y0 (γ:=Zo 6) (φ:=Zg 5 (eOp mulX (Za 5) (Za 2))) (λk δ=>∃w6,δ=E18 base rows n dp cs (n ^ k) w6 none none none none none none none none none none none) ((List.range dp).map nD) 0 (E18 base rows n dp cs 1 none none none none none none none none none none none none) ⟨_,rfl⟩ (by
  rintro k x δ hx ⟨w6,rfl⟩
  have hk:k<dp:=by
   have:=(List.getElem?_eq_some_iff.mp hx).1
   rwa [List.length_map,List.length_range]at this
  rw [List.getElem?_map,List.getElem?_range hk]at hx;cases hx;rw [Nat.zero_add];exact⟨_,rfl,_,Zz ((Zk (x:=nD (n ^ k)) (y:=nD n) rfl rfl).trans ((Ul (by omega) (by omega)).trans (show _=some (nD (n ^ (k+1))) by rw [Nat.pow_succ,nD,Int.natCast_mul]))),some (nD k),rfl⟩)
 subst e1;rw [List.length_map,List.length_range,Nat.zero_add,<-h.s]at f1;have t7:Zg 7 (Zv eNil) (E18 base rows n dp cs sp w6 none none none none none none none none none none none)=some (.nx (E18 base rows n dp cs sp w6 (some (.lst [])) none none none none none none none none none none)):=Zz (Yy nil_of (by show 0<=1000;decide));have t8:Zg 8 (Zv eNil) (E18 base rows n dp cs sp w6 (some (.lst [])) none none none none none none none none none none)=some (.nx (E18 base rows n dp cs sp w6 (some (.lst [])) (some (.lst [])) none none none none none none none none none)):=Zz (Yy nil_of (by show 0<=1000;decide))
 obtain⟨δ2,f2,y9,y10,y11,y12,y13,y14,y15,y16,y17,e2⟩:=Y0 (γ:=Zo 9) (φ:=dB) (λi δ=>∃w9 w10 w11 w12 w13 w14 w15 w16 w17,δ=E18 base rows n dp cs sp w6 (some (AD (dHm base sp i))) (some (.lst ((dW base rows cs n dp sp i).map rwD))) w9 w10 w11 w12 w13 w14 w15 w16 w17) (base.map nD) 0 (E18 base rows n dp cs sp w6 (some (.lst [])) (some (.lst [])) none none none none none none none none none) ⟨_,_,_,_,_,_,_,_,_,rfl⟩ (by
  rintro i x δ hx ⟨w9,w10,w11,w12,w13,w14,w15,w16,w17,rfl⟩
  have hi:i<base.length:=by
   have:=(List.getElem?_eq_some_iff.mp hx).1
   rwa [List.length_map]at this
  have e3:base[i]? = some (base.getD i 0):=by rw [List.getD_eq_getElem?_getD,List.getElem?_eq_getElem hi];rfl
  rw [List.getElem?_map,e3]at hx;cases hx;rw [Nat.zero_add];obtain⟨z10,z11,z12,z13,z14,z15,z16,z17,hB⟩:=ZjZ hb hc h hcs hi w6 w10 w11 w12 w13 w14 w15 w16 w17;exact⟨_,rfl,_,hB,_,_,_,_,_,_,_,_,_,rfl⟩)
 subst e2;rw [List.length_map,Nat.zero_add]at f2;refine Yz rfl ?_;rw [Zcr];refine(Zp t5).trans ?_;have tM:dM (E18 base rows n dp cs 1 none none none none none none none none none none none none)=some (.nx (E18 base rows n dp cs sp w6 none none none none none none none none none none none)):=Ym (Xg (m:=dp) rfl (by omega)) f1;rw [Zp tM,Zp t7,Zp t8,Zp (Ym (XF rfl) f2)];exact Yx (V0 (Zh ((ZN (Zh (x:=AD (dHm base sp base.length)) rfl nil_of)).trans rfl) (Zh ((ZN (Zh (x:=.lst ((dW base rows cs n dp sp base.length).map rwD)) rfl nil_of)).trans rfl) nil_of)) (by show 2<=1000;decide))
end
end K44
namespace K44
open DL L2
def st(W:List (List Pr))(a s:Nat):Option Pr:=(W[a]?).bind (·[s]?)
inductive Pth(W:List (List Pr)):Nat->List Nat->List (List Nat)->Nat->Prop
 |nil (a:Nat):Pth W a [] [] a
 |cons {a s a' e:Nat} {b:List Nat} {ss:List Nat} {bs:List (List Nat)}:st W a s=some (b,a')->Pth W a' ss bs e->Pth W a (s::ss) (b::bs) e
section
variable{mk:List Nat}{gw:Gw}{base:List Nat}{rows:List (List Pr)}{n dp sp q:Nat}{cs:List Int}
theorem QE{i k s:Nat}{p:Pr}(hi:i<base.length)(hk:k<sp)(h:st (dW base rows cs n dp sp base.length) (i*sp+k) s=some p):s<n/\p=Xh base rows cs n dp sp i k s:=by
 unfold st at h;have e:(dW base rows cs n dp sp base.length)[i*sp+k]? = some (Yu base rows cs n dp sp i k):=Jv (Yu base rows cs n dp sp) sp base.length i k hi hk;rw [e]at h;replace h:(Yu base rows cs n dp sp i k)[s]? = some p:=h;unfold Yu at h;rw [List.getElem?_map]at h
 by_cases hs:s<n
 · rw [List.getElem?_range hs]at h
   exact⟨hs,(Option.some.inj h).symm⟩
 · rw [List.getElem?_eq_none (by simpa using hs)]at h
   cases h
theorem Zdr(hb:Base gw base)(hc:Ch mk gw base q rows)(h:Dl rows n dp sp){i p p':Nat}(hi:i<base.length)(hp:p<n)(hp':p'<n)(e:(chp rows i p).1=(chp rows i p').1):p=p':=by
 obtain⟨c1,c2,_,_⟩:=QD hb hc h hi hp;obtain⟨_,c3,_,_⟩:=QD hb hc h hi hp';have e3:base[i]? = some (base.getD i 0):=by rw [List.getD_eq_getElem?_getD,List.getElem?_eq_getElem hi];rfl
 obtain⟨_,nd,_⟩:=hc.ok i _ _ c1 e3;have l1:=(List.getElem?_eq_some_iff.mp c2).1;have l2:=(List.getElem?_eq_some_iff.mp c3).1;have g1:((rows.getD i []).map (·.1))[p]? = some (chp rows i p).1:=by rw [List.getElem?_map,c2];rfl
 have g2:((rows.getD i []).map (·.1))[p']? = some (chp rows i p).1:=by rw [List.getElem?_map,c3,e];rfl
 exact(List.getElem?_inj (by rw [List.length_map];exact l1) nd).mp (g1.trans g2.symm)
theorem Zj0(hb:Base gw base)(hc:Ch mk gw base q rows)(h:Dl rows n dp sp){i p:Nat}(hi:i<base.length)(hp:p<n):mi base (chp rows i p).2<base.length:=(ZfG (QD hb hc h hi hp).2.2.2).1
theorem QF(hb:Base gw base)(hc:Ch mk gw base q rows)(h:Dl rows n dp sp){i k s:Nat}(hi:i<base.length)(hk:k<sp):∃i' k',i'<base.length/\k'<sp/\(Xh base rows cs n dp sp i k s).2=i'*sp+k'/\i'=mi base (chp rows i (pk cs n dp sp (i*sp+k) k s)).2/\k'=lat cs n dp sp (i*sp+k) k s:=⟨_,_,Zj0 hb hc h hi (Ut h cs hk),Zit h cs,rfl,rfl,rfl⟩
theorem ZkI(hb:Base gw base)(hc:Ch mk gw base q rows)(h:Dl rows n dp sp)(hd:0<dp):∀L,L<=dp->∀(i k1 k2:Nat)(ss ss':List Nat)(bs:List (List Nat))(e e':Nat),i<base.length->k1<sp->k2<sp->L<=bs.length->Pth (dW base rows cs n dp sp base.length) (i*sp+k1) ss bs e->Pth (dW base rows cs n dp sp base.length) (i*sp+k2) ss' bs e'->k1 / n ^ (dp-L)=k2 / n ^ (dp-L)
 |0,_,i,k1,k2,ss,ss',bs,e,e',hi,h1,h2,_,_,_=>by
  rw [Nat.sub_zero,<-h.s,Nat.div_eq_of_lt h1,Nat.div_eq_of_lt h2]
 |L+1,hL,i,k1,k2,ss,ss',bs,e,e',hi,h1,h2,hl,p1,p2=>by
  have n1:=h.n1;obtain⟨hh,hh1,hh2⟩:=h.half hd;cases p1 with
  |nil=>exact absurd hl (by simp)
  |cons s1 q1=>
   cases p2 with
   |cons s2 q2=>
    rename_i s a1 b ss1 bs1 s' a2 ss2;obtain⟨ls,e1⟩:=QE hi h1 s1;obtain⟨ls',e2⟩:=QE hi h2 s2;obtain⟨i1,m1,hi1,hm1,w1,w2,w3⟩:=QF (cs:=cs) hb hc h (s:=s) hi h1;obtain⟨i2,m2,hi2,hm2,y1,y2,y3⟩:=QF (cs:=cs) hb hc h (s:=s') hi h2;have x1:=congrArg Prod.fst e1;have x2:=congrArg Prod.fst e2;have z1:a1=i1*sp+m1:=(congrArg Prod.snd e1).trans w1;have z2:a2=i2*sp+m2:=(congrArg Prod.snd e2).trans y1
    have P1:pk cs n dp sp (i*sp+k1) k1 s=k1 / (sp / n):=by unfold pk;rw [if_pos hd]
    have P2:pk cs n dp sp (i*sp+k2) k2 s'=k2 / (sp / n):=by unfold pk;rw [if_pos hd]
    have ep:pk cs n dp sp (i*sp+k1) k1 s=pk cs n dp sp (i*sp+k2) k2 s':=Zdr hb hc h hi (Ut h cs h1) (Ut h cs h2) (x1.symm.trans x2);have ei:i1=i2:=by rw [w2,y2,ep]
    subst ei;rw [z1]at q1;rw [z2]at q2;have ih:=ZkI hb hc h hd L (by omega) i1 m1 m2 ss1 ss2 bs1 e e' hi1 hm1 hm2 (by rw [List.length_cons]at hl;omega) q1 q2;have L1:m1=k1 % (sp / n)*n+nw cs n (i*sp+k1) s:=by rw [w3];unfold lat;rw [if_pos hd]
    have L2:m2=k2 % (sp / n)*n+nw cs n (i*sp+k2) s':=by rw [y3];unfold lat;rw [if_pos hd]
    have N1:=(Us cs n1 (i*sp+k1) s).2;have N2:=(Us cs n1 (i*sp+k2) s').2;rw [P1,P2]at ep;generalize nw cs n (i*sp+k1) s=u1 at L1 N1;generalize nw cs n (i*sp+k2) s'=u2 at L2 N2;rw [hh]at L1 L2 ep;have D1:m1 / n=k1 % n ^ (dp-1):=by rw [L1,Nat.mul_comm,Nat.mul_add_div n1,Nat.div_eq_of_lt N1,Nat.add_zero]
    have D2:m2 / n=k2 % n ^ (dp-1):=by rw [L2,Nat.mul_comm,Nat.mul_add_div n1,Nat.div_eq_of_lt N2,Nat.add_zero]
    have hp:n ^ (dp-L)=n*n ^ (dp-(L+1)):=by
     rw [show dp-L=(dp-(L+1))+1 by omega,Nat.pow_succ,Nat.mul_comm]
    rw [hp,<-Nat.div_div_eq_div_mul,<-Nat.div_div_eq_div_mul,D1,D2]at ih
    have hq:n ^ (dp-1)=n ^ (dp-(L+1))*n ^ L:=by
     rw [<-Nat.pow_add]
     congr 1
     omega
    have A1:=Nat.div_add_mod k1 (n ^ (dp-1));have A2:=Nat.div_add_mod k2 (n ^ (dp-1));have pos:0<n ^ (dp-(L+1)):=Nat.pow_pos n1
    have B:∀k t r:Nat,n ^ (dp-1)*t+r=k->k / n ^ (dp-(L+1))=n ^ L*t+r / n ^ (dp-(L+1)):=λk t r hk=>by
     rw [<-hk,hq,Nat.mul_assoc,Nat.mul_add_div pos]
    rw [B k1 _ _ A1,B k2 _ _ A2,ep,ih]
theorem dec(hb:Base gw base)(hc:Ch mk gw base q rows)(h:Dl rows n dp sp){a s s' e e':Nat}{ss ss':List Nat}{bs:List (List Nat)}(ha:a<base.length*sp)(hl:dp+1<=bs.length)(p1:Pth (dW base rows cs n dp sp base.length) a (s::ss) bs e)(p2:Pth (dW base rows cs n dp sp base.length) a (s'::ss') bs e'):s=s':=by
 have n1:=h.n1;have hs:=h.s1;obtain⟨i,k,hi,hk,rfl⟩:∃i k,i<base.length/\k<sp/\a=i*sp+k:=⟨a / sp,a % sp,by rw [Nat.div_lt_iff_lt_mul hs];exact ha,Nat.mod_lt _ hs,by rw [Nat.mul_comm];exact(Nat.div_add_mod a sp).symm⟩
 cases p1 with
 |cons s1 q1=>
  cases p2 with
  |cons s2 q2=>
   rename_i a1 b bs1 a2;obtain⟨ls,e1⟩:=QE hi hk s1;obtain⟨ls',e2⟩:=QE hi hk s2;have x1:=congrArg Prod.fst e1;have x2:=congrArg Prod.fst e2;have ep:pk cs n dp sp (i*sp+k) k s=pk cs n dp sp (i*sp+k) k s':=Zdr hb hc h hi (Ut h cs hk) (Ut h cs hk) (x1.symm.trans x2)
   by_cases hd:0<dp
   · obtain⟨i1,m1,hi1,hm1,w1,w2,w3⟩:=QF (cs:=cs) hb hc h (s:=s) hi hk
     obtain⟨i2,m2,hi2,hm2,y1,y2,y3⟩:=QF (cs:=cs) hb hc h (s:=s') hi hk;have z1:a1=i1*sp+m1:=(congrArg Prod.snd e1).trans w1;have z2:a2=i2*sp+m2:=(congrArg Prod.snd e2).trans y1;have ei:i1=i2:=by rw [w2,y2,ep]
     subst ei;rw [z1]at q1;rw [z2]at q2;have t:=ZkI hb hc h hd dp (Nat.le_refl _) i1 m1 m2 _ _ bs1 e e' hi1 hm1 hm2 (by rw [List.length_cons]at hl;omega) q1 q2;rw [Nat.sub_self,Nat.pow_zero,Nat.div_one,Nat.div_one,w3,y3]at t;unfold lat at t;rw [if_pos hd,if_pos hd]at t;exact ZfH cs (i*sp+k) ls ls' (by omega)
   · unfold pk at ep
     rw [if_neg hd,if_neg hd]at ep;exact ZfH cs (i*sp+k) ls ls' ep
end
end K44
namespace K44
open DL L2
theorem V2{δ:DL.Env}{ns:List Int}(k:Nat)(h:Za 0 δ=some (IL ns)):Zy 2 YD [] (Zb (Za 0) (Zb (eC (.int (k:Int))) eNil)) δ=some (.int (ns.getD k 0)):=(YC (n:=2) (Zh h (Zh (x:=.int (k:Int)) rfl nil_of)) rfl).trans (ZgH ns k)
theorem Zds{a b:List D}(h:a.length+b.length<=100000):Uj (.lst a) (.lst b)=some (.lst (a++b)):=ZgD h
noncomputable def e2:DL.Env->Option D:=(Zy 2 YD [] (Zb (Za 0) (Zb (eC (.int 2)) eNil)))
noncomputable def e3:DL.Env->Option D:=(Zy 2 YD [] (Zb (Za 0) (Zb (eC (.int 3)) eNil)))
noncomputable def a2:DL.Env->Option Out:=(Zg 2 (Zy 2 Ji [] (Zb (Zy 2 YD [] (Zb (Za 0) (Zb (eC (.int 1)) eNil))) (Zb e2 eNil))))
noncomputable def a3:DL.Env->Option Out:=(Zg 3 (Qp (Zb (eCB lenD (Zb (eOp ixD (Za 2) (eC (.int 1))) eNil)) eNil)))
noncomputable def a3':DL.Env->Option Out:=(sIf (xB (eOp eqD (eOp modW (eOp fdivW e2 (eC (.int 36))) (eC (.int 2))) (eC (.int 1)))) (Zg 3 (Zv (Zb (eOp modW (eOp fdivW e2 (eC (.int 72))) (eCB lenD (Zb (Za 3) eNil))) eNil))) sNext)
noncomputable def a4:DL.Env->Option Out:=(Zg 4 (Zy 3 Jk [] (Zb (Za 2) (Zb (Za 3) (Zb e3 eNil)))))
noncomputable def a5:DL.Env->Option Out:=(Zg 5 (eCB minQD (Zb (eOp Uj (Zv (Zb (eOp addX (eC (.int 1)) (eOp modW (eOp fdivW e3 (eC (.int 4))) (eC (.int 3)))) eNil)) (ZT (ZJ (Za 4)) (Zo 0) (λ_=>some true) (eCB lenD (Zb (Za 0) eNil)) 1 [])) eNil)))
noncomputable def a6:DL.Env->Option Out:=(Zg 6 (eOp ixD (Zv (Zb (eC (.int 0)) (Zb (eC (.int 0)) (Zb (eC (.int 1)) (Zb (eC (.int 1)) (Zb (eC (.int 1)) (Zb (eC (.int 2)) (Zb (eC (.int 2)) (Zb (eC (.int 3)) eNil))))))))) (eOp modW (eOp fdivW e3 (eC (.int 12))) (eC (.int 8)))))
noncomputable def b6:DL.Env->Option Out:=(sIf (xB (eOp (ZQ λi j=>decide (j<i)) (eCB lenD (Zb (Za 3) eNil)) (eC (.int 2)))) (Zg 6 (eCB minD (Zb (Za 6) (Zb (eC (.int 2)) eNil)))) sNext)
noncomputable def c6:DL.Env->Option Out:=(sIf (xB (eOp eqD (Za 5) (eC (.int 3)))) (Zg 6 (eCB minD (Zb (Za 6) (Zb (eC (.int 1)) eNil)))) sNext)
noncomputable def d6:DL.Env->Option Out:=(sIf (xB (eOp eqD (Za 5) (eC (.int 1)))) (Zg 6 (eC (.int 0))) sNext)
noncomputable def a7:DL.Env->Option Out:=(XD (ZS 2 (ZG 7 (ZG 8 gsNil))) (Zy 5 Jm [] (Zb (Za 3) (Zb (Za 4) (Zb (Za 5) (Zb (Za 6) (Zb (Za 1) eNil)))))))
theorem ZgO:f_QR=Zd a2 (Zd a3 (Zd a3' (Zd a4 (Zd a5 (Zd a6 (Zd b6 (Zd c6 (Zd d6 (Zd a7 (ZA (Yc (Zb (Za 2) (Zb (Za 7) (Zb (Za 8) (Zb (Za 6) eNil))))))))))))))):=rfl
abbrev L9(ns cs:List Int)(v2 v3 v4 v5 v6 v7 v8:Option D):DL.Env:=[some (IL ns),some (IL cs),v2,v3,v4,v5,v6,v7,v8]
structure Late(mk:List Nat)(gw:Gw)(base:List Nat)(q:Nat)(rows:List (List Pr))(n dp sp:Nat):Prop where
 g:GOk mk gw
 hb:Base gw base
 hc:Ch mk gw base q rows
 dl:Dl rows n dp sp
theorem Ze3{gw:Gw}(h1:1<=gw.length)(h4:gw.length<=4):Base gw (List.range gw.length):=⟨by rw [List.length_range];exact h1,λr hr=>List.mem_range.mp hr,List.nodup_range,by rw [List.length_range];exact h4⟩
theorem ZgP{mk:List Nat}{gw:Gw}(g:GOk mk gw)(ns cs:List Int)(x:Int)(v4 v5 v6 v7 v8:Option D):∃base,Base gw base/\a3' (L9 ns cs (some (gD mk gw x)) (some (AD (List.range gw.length))) v4 v5 v6 v7 v8)=some (.nx (L9 ns cs (some (gD mk gw x)) (some (AD base)) v4 v5 v6 v7 v8)):=by
 have r1:=g.r1;have r4:=g.r4;have ec:e2 (L9 ns cs (some (gD mk gw x)) (some (AD (List.range gw.length))) v4 v5 v6 v7 v8)=some (.int (ns.getD 2 0)):=V2 2 rfl;have et:xB (eOp eqD (eOp modW (eOp fdivW e2 (eC (.int 36))) (eC (.int 2))) (eC (.int 1))) (L9 ns cs (some (gD mk gw x)) (some (AD (List.range gw.length))) v4 v5 v6 v7 v8)=some (decide (((ns.getD 2 0).fdiv 36).fmod 2=1)):=ZX ((Zk (y:=.int 1) ((Zk (y:=.int 2) ((Zk (y:=.int 36) ec rfl).trans (Xq (by decide) (by decide))) rfl).trans (Yt (by decide))) rfl).trans (XT _ _))
 by_cases hz:((ns.getD 2 0).fdiv 36).fmod 2=1
 · rw [decide_eq_true hz]at et
   obtain⟨r,hr,hrl⟩:=YK ((ns.getD 2 0).fdiv 72) (m:=gw.length) r1;refine⟨[r],⟨by simp,λz hz=>by rw [List.mem_singleton.mp hz];exact hrl,by simp,by simp⟩,(Y7 et).trans ?_⟩;refine Zz (Yy (Zh (x:=nD r) ((Zk (y:=nD gw.length) ((Zk (y:=.int 72) ec rfl).trans (Xq (by decide) (by decide))) ((ZN (Zh (x:=AD (List.range gw.length)) rfl nil_of)).trans (len_lst.trans (by rw [List.length_map,List.length_range])))).trans ((Yt (by omega)).trans (by rw [hr]))) nil_of) (by show 1<=1000;decide))
 · rw [decide_eq_false hz]at et
   exact⟨List.range gw.length,Ze3 r1 r4,(Ye et).trans rfl⟩
theorem ZgQ{mk:List Nat}{gw:Gw}{base:List Nat}{q:Nat}{rows:List (List Pr)}(hb:Base gw base)(hc:Ch mk gw base q rows)(ns cs:List Int)(v2 v3 v5 v6 v7 v8:Option D):∃n:Nat,1<=n/\n<=3/\(∀row∈rows,n<=row.length)/\a5 (L9 ns cs v2 v3 (some (.lst (rows.map lrD))) v5 v6 v7 v8)=some (.nx (L9 ns cs v2 v3 (some (.lst (rows.map lrD))) (some (nD n)) v6 v7 v8)):=by
 have hb4:=hb.l4;have ec:e3 (L9 ns cs v2 v3 (some (.lst (rows.map lrD))) v5 v6 v7 v8)=some (.int (ns.getD 3 0)):=V2 3 rfl;obtain⟨a,ha,hal⟩:=YK ((ns.getD 3 0).fdiv 4) (m:=3) (by decide);have ha':((ns.getD 3 0).fdiv 4).fmod 3=(a:Int):=ha;have hc8:ZZ (Zo 0) (λ_=>some true) (eCB lenD (Zb (Za 0) eNil)) [none] (rows.map lrD)=some (rows.map λr=>D.int (r.length:Int)):=XZ lrD _ _ λrow _=>⟨[some (lrD row)],rfl,(ZN (Zh (x:=lrD row) rfl nil_of)).trans (len_lst.trans (by rw [List.length_map]))⟩
 have hl:0<((1+(a:Int))::rows.map λr=>(r.length:Int)).length:=by simp
 obtain⟨m1,m2⟩:=Q6 hl
 have hpos:∀y∈(1+(a:Int))::rows.map (λr=>(r.length:Int)),1<=y:=λy hy=>by
  rcases List.mem_cons.mp hy with rfl|hy
  · omega
  · obtain⟨row,hr,rfl⟩:=List.mem_map.mp hy
    obtain⟨i,hi,e⟩:=List.mem_iff_getElem.mp hr;have hib:i<base.length:=by rw [<-hc.ln];exact hi
    have:=(hc.ok i row base[i] (by rw [List.getElem?_eq_getElem hi,e]) (List.getElem?_eq_getElem hib)).2.2.1;omega
 have t5:a5 (L9 ns cs v2 v3 (some (.lst (rows.map lrD))) v5 v6 v7 v8)=some (.nx (L9 ns cs v2 v3 (some (.lst (rows.map lrD))) (some (.int (Xo ((1+(a:Int))::rows.map λr=>(r.length:Int))))) v6 v7 v8)):=by
  refine Zz ((ZN (Zh (x:=.lst (((1+(a:Int))::rows.map λr=>(r.length:Int)).map D.int)) ((Zk (x:=.lst [.int (1+(a:Int))]) (y:=.lst (rows.map λr=>D.int (r.length:Int))) (Yy (Zh ((Zk (x:=.int 1) (y:=.int (a:Int)) rfl ((Zk (y:=.int 3) ((Zk (y:=.int 4) ec rfl).trans (Xq (by decide) (by decide))) rfl).trans ((Yt (by decide)).trans (by rw [ha'])))).trans (add_int _ _)) nil_of) (by show 1<=1000;decide)) (XU (XF rfl) rfl hc8 (by rw [List.length_map,hc.ln];omega))).trans ((Zds (by rw [List.length_map,hc.ln];show 1+base.length<=100000;omega)).trans (by rw [List.map_cons,List.map_map];rfl))) nil_of)).trans (Zdn hl))
 have h1:=hpos _ m1;have h2:=m2 _ List.mem_cons_self;generalize Xo ((1+(a:Int))::rows.map λr=>(r.length:Int))=z at m1 m2 t5 h1 h2;obtain⟨n,rfl⟩:=ZfA (i:=z) (by omega)
 exact⟨n,by omega,by omega,λrow hr=>by
  have:=m2 _ (List.mem_cons_of_mem _ (List.mem_map.mpr ⟨row,hr,rfl⟩));omega,t5⟩
theorem Ziu:∀a:Nat,a<8->∃d:Nat,d<=3/\([.int 0,.int 0,.int 1,.int 1,.int 1,.int 2,.int 2,.int 3]:List D)[a]? = some (nD d):=λa ha=>by
 have:a=0\/a=1\/a=2\/a=3\/a=4\/a=5\/a=6\/a=7:=by omega
 rcases this with rfl|rfl|rfl|rfl|rfl|rfl|rfl|rfl
 · exact⟨0,by decide,rfl⟩
 · exact⟨0,by decide,rfl⟩
 · exact⟨1,by decide,rfl⟩
 · exact⟨1,by decide,rfl⟩
 · exact⟨1,by decide,rfl⟩
 · exact⟨2,by decide,rfl⟩
 · exact⟨2,by decide,rfl⟩
 · exact⟨3,by decide,rfl⟩
theorem Ziv(ns cs:List Int)(v2 v3 v4 v5 v6 v7 v8:Option D):∃d:Nat,d<=3/\a6 (L9 ns cs v2 v3 v4 v5 v6 v7 v8)=some (.nx (L9 ns cs v2 v3 v4 v5 (some (nD d)) v7 v8)):=by
 have ec:e3 (L9 ns cs v2 v3 v4 v5 v6 v7 v8)=some (.int (ns.getD 3 0)):=V2 3 rfl;obtain⟨a,ha,hal⟩:=YK ((ns.getD 3 0).fdiv 12) (m:=8) (by decide);have ha':((ns.getD 3 0).fdiv 12).fmod 8=(a:Int):=ha;obtain⟨d,hd,e⟩:=Ziu a hal;exact⟨d,hd,Zz ((Zk (y:=nD a) (Yy (Zh rfl (Zh rfl (Zh rfl (Zh rfl (Zh rfl (Zh rfl (Zh rfl (Zh rfl nil_of)))))))) (show 8<=1000 by decide)) ((Zk (y:=.int 8) ((Zk (y:=.int 12) ec rfl).trans (Xq (by decide) (by decide))) rfl).trans ((Yt (by decide)).trans (by rw [ha'])))).trans (Um e))⟩
theorem ZfJ(d k:Nat):∃d':Nat,d'<=d/\d'<=k/\minD [nD d,nD k]=some (nD d'):=by
 show ∃d':Nat,d'<=d/\d'<=k/\some (D.int (if(k:Int)<(d:Int)then(k:Int)else(d:Int)))=some (nD d')
 by_cases h:k<d
 · exact⟨k,by omega,by omega,by rw [if_pos (by omega)]⟩
 · exact⟨d,by omega,by omega,by rw [if_neg (by omega)]⟩
theorem Zj1(ns cs:List Int)(base:List Nat)(d:Nat)(v2 v4 v5 v7 v8:Option D):∃d':Nat,d'<=d/\b6 (L9 ns cs v2 (some (AD base)) v4 v5 (some (nD d)) v7 v8)=some (.nx (L9 ns cs v2 (some (AD base)) v4 v5 (some (nD d')) v7 v8)):=by
 have et:xB (eOp (ZQ λi j=>decide (j<i)) (eCB lenD (Zb (Za 3) eNil)) (eC (.int 2))) (L9 ns cs v2 (some (AD base)) v4 v5 (some (nD d)) v7 v8)=some (decide ((2:Int)<(base.length:Int))):=ZX ((Zk (x:=.int (base.length:Int)) (y:=.int 2) ((ZN (Zh (x:=AD base) rfl nil_of)).trans (len_lst.trans (by rw [List.length_map]))) rfl).trans rfl);obtain⟨d',h1,_,e⟩:=ZfJ d 2;cases hz:decide ((2:Int)<(base.length:Int))with
 |true=>
  rw [hz]at et;exact⟨d',h1,(Y7 et).trans (Zz ((ZN (Zh (x:=nD d) rfl (Zh (x:=nD 2) rfl nil_of))).trans e))⟩
 |false=>
  rw [hz]at et;exact⟨d,Nat.le_refl _,(Ye et).trans rfl⟩
theorem Zj2(ns cs:List Int)(n d:Nat)(v2 v3 v4 v7 v8:Option D):∃d':Nat,d'<=d/\(n=3->d'<=1)/\c6 (L9 ns cs v2 v3 v4 (some (nD n)) (some (nD d)) v7 v8)=some (.nx (L9 ns cs v2 v3 v4 (some (nD n)) (some (nD d')) v7 v8)):=by
 have et:xB (eOp eqD (Za 5) (eC (.int 3))) (L9 ns cs v2 v3 v4 (some (nD n)) (some (nD d)) v7 v8)=some (decide ((n:Int)=3)):=ZX ((Zk (x:=nD n) (y:=.int 3) rfl rfl).trans (XT _ _));obtain⟨d',h1,h2,e⟩:=ZfJ d 1
 by_cases hz:(n:Int)=3
 · rw [decide_eq_true hz]at et
   exact⟨d',h1,λ_=>h2,(Y7 et).trans (Zz ((ZN (Zh (x:=nD d) rfl (Zh (x:=nD 1) rfl nil_of))).trans e))⟩
 · rw [decide_eq_false hz]at et
   exact⟨d,Nat.le_refl _,λh=>absurd (by omega) hz,(Ye et).trans rfl⟩
theorem Zj3(ns cs:List Int)(n d:Nat)(v2 v3 v4 v7 v8:Option D):∃d':Nat,d'<=d/\(n=1->d'=0)/\d6 (L9 ns cs v2 v3 v4 (some (nD n)) (some (nD d)) v7 v8)=some (.nx (L9 ns cs v2 v3 v4 (some (nD n)) (some (nD d')) v7 v8)):=by
 have et:xB (eOp eqD (Za 5) (eC (.int 1))) (L9 ns cs v2 v3 v4 (some (nD n)) (some (nD d)) v7 v8)=some (decide ((n:Int)=1)):=ZX ((Zk (x:=nD n) (y:=.int 1) rfl rfl).trans (XT _ _))
 by_cases hz:(n:Int)=1
 · rw [decide_eq_true hz]at et
   exact⟨0,Nat.zero_le _,λ_=>rfl,(Y7 et).trans (Zz rfl)⟩
 · rw [decide_eq_false hz]at et
   exact⟨d,Nat.le_refl _,λh=>absurd (by omega) hz,(Ye et).trans rfl⟩
theorem ZgR(ns cs:List Int)(hcs:cs.length=20):∃mk gw x base q rows n dp sp,Late mk gw base q rows n dp sp/\Jn [IL ns,IL cs]=some (.tup [gD mk gw x,.tup ((dHm base sp base.length).map nD),.tup ((dW base rows cs n dp sp base.length).map rwD),nD dp]):=by
 obtain⟨mk,gw,x,g,eg⟩:=Zeb (ns.getD 1 0) (ns.getD 2 0);have t2:a2 (L9 ns cs none none none none none none none)=some (.nx (L9 ns cs (some (gD mk gw x)) none none none none none none)):=Zz ((YC (n:=2) (Zh (V2 1 rfl) (Zh (V2 2 rfl) nil_of)) rfl).trans eg);have r4:=g.r4
 have t3:a3 (L9 ns cs (some (gD mk gw x)) none none none none none none)=some (.nx (L9 ns cs (some (gD mk gw x)) (some (AD (List.range gw.length))) none none none none none)):=by
  refine Zz ?_;unfold Qp;rw [show Zb (eCB lenD (Zb (eOp ixD (Za 2) (eC (.int 1))) eNil)) eNil (L9 ns cs (some (gD mk gw x)) none none none none none none)=some [nD gw.length]from Zh ((ZN (Zh (Ju rfl) nil_of)).trans (len_tup.trans (by rw [List.length_map]))) nil_of];dsimp only;rw [if_pos (by omega),Int.toNat_natCast]
 obtain⟨base,hb,tb⟩:=ZgP g ns cs x none none none none none;obtain⟨q,rows,hc,ec⟩:=Zcq g hb x (ns.getD 3 0);have t4:a4 (L9 ns cs (some (gD mk gw x)) (some (AD base)) none none none none none)=some (.nx (L9 ns cs (some (gD mk gw x)) (some (AD base)) (some (.lst (rows.map lrD))) none none none none)):=Zz ((YC (n:=3) (Zh (x:=gD mk gw x) rfl (Zh (x:=AD base) rfl (Zh (V2 3 rfl) nil_of))) rfl).trans ec)
 obtain⟨n,n1,n3,cn,t5⟩:=ZgQ hb hc ns cs (some (gD mk gw x)) (some (AD base)) none none none none;obtain⟨d0,h0,t6⟩:=Ziv ns cs (some (gD mk gw x)) (some (AD base)) (some (.lst (rows.map lrD))) (some (nD n)) none none none;obtain⟨d1,h1,u6⟩:=Zj1 ns cs base d0 (some (gD mk gw x)) (some (.lst (rows.map lrD))) (some (nD n)) none none;obtain⟨d2,h2,h2',v6⟩:=Zj2 ns cs n d1 (some (gD mk gw x)) (some (AD base)) (some (.lst (rows.map lrD))) none none
 obtain⟨dp,h3,h3',w6⟩:=Zj3 ns cs n d2 (some (gD mk gw x)) (some (AD base)) (some (.lst (rows.map lrD))) none none
 have dl:Dl rows n dp (n ^ dp):=by
  refine⟨n1,n3,by omega,rfl,?_,cn⟩;have hn:n=1\/n=2\/n=3:=by omega
  rcases hn with rfl|rfl|rfl
  · rw [Nat.one_pow];decide
  · have:dp=0\/dp=1\/dp=2\/dp=3:=by omega
    rcases this with rfl|rfl|rfl|rfl<;>decide
  · have:=h2' rfl
    have:dp=0\/dp=1:=by omega
    rcases this with rfl|rfl<;>decide
 refine⟨mk,gw,x,base,q,rows,n,dp,n ^ dp,⟨g,hb,hc,dl⟩,Yz (δ:=L9 ns cs none none none none none none none) rfl ?_⟩;have t7:a7 (L9 ns cs (some (gD mk gw x)) (some (AD base)) (some (.lst (rows.map lrD))) (some (nD n)) (some (nD dp)) none none)=some (.nx (L9 ns cs (some (gD mk gw x)) (some (AD base)) (some (.lst (rows.map lrD))) (some (nD n)) (some (nD dp)) (some (.tup ((dHm base (n ^ dp) base.length).map nD))) (some (.tup ((dW base rows cs n dp (n ^ dp) base.length).map rwD))))):=Zdp ((YC (n:=5) (Zh (x:=AD base) rfl (Zh (x:=.lst (rows.map lrD)) rfl (Zh (x:=nD n) rfl (Zh (x:=nD dp) rfl (Zh (x:=IL cs) rfl nil_of))))) rfl).trans (Zcs hb hc dl hcs))
 rw [ZgO,Zp t2,Zp t3,Zp tb,Zp t4,Zp t5,Zp t6,Zp u6,Zp v6,Zp w6,Zp t7];exact Yx (V0 (Zh rfl (Zh rfl (Zh rfl (Zh rfl nil_of)))) (show 4<=1000 by decide))
end K44
namespace K44
open DL L2
structure Pl where
 lead:List Nat
 first:Nat
 ahead:Nat
 hs:List Nat
 W:List (List Pr)
 n:Nat
 q:Nat
def Pl.obj(p:Pl):D := .obj "Table" ["lead", "first", "ahead", "homes", "ways"] [.str p.lead,nD p.first,nD p.ahead,.tup (p.hs.map nD),.tup (p.W.map rwD)]
structure Pl.Ok(p:Pl):Prop where
 n1:1<=p.n
 n3:p.n<=3
 m4:p.W.length<=100
 f:p.first<p.W.length
 rw:∀r∈p.W,r.length=p.n/\∀x∈r,x.2<p.W.length/\x.1.length=p.q/\Vs x.1
 q1:1<=p.q
 q4:p.q<=4
 a5:p.ahead<=5
 l:p.lead.length<=10
 dec:∀(a s s' e e':Nat)(ss ss':List Nat)(bs:List (List Nat)),a<p.W.length->bs.length=p.ahead+1->Pth p.W a (s::ss) bs e->Pth p.W a (s'::ss') bs e'->s=s'
noncomputable def inE:DL.Env->Option D:=(eCB Z0 (Zb (ZT (ZJ (Za 0)) (Zo 0) (λ_=>some true) (eCB Z0 (Zb (Za 0) eNil)) 1 []) eNil))
theorem Ziw(r:List Pr)(hl:r.length<=10):inE [some (rwD r)]=some (rwD r):=by
 have hc:ZZ (Zo 0) (λ_=>some true) (eCB Z0 (Zb (Za 0) eNil)) [none] (r.map prD)=some (r.map prD):=XZ prD prD _ λx hx=>⟨[some (prD x)],rfl,rfl⟩
 exact(ZN (Zh (XU (xs:=r.map prD) (ZaH rfl) rfl hc (by rw [List.length_map];omega)) nil_of)).trans rfl
abbrev I6(p:Pl)(v0:Option D):DL.Env:=[v0,some (.str p.lead),some (nD p.first),some (nD p.ahead),some (.tup (p.hs.map nD)),some (.tup (p.W.map rwD))]
theorem ZgS(p:Pl)(h:p.Ok):Jf [.obj "Table" [] [],.str p.lead,nD p.first,nD p.ahead,.tup (p.hs.map nD),.tup (p.W.map rwD)]=some p.obj:=by
 have hc:ZZ (Zo 0) (λ_=>some true) inE [none] (p.W.map rwD)=some (p.W.map rwD):=XZ rwD rwD _ λr hr=>⟨[some (rwD r)],rfl,Ziw r (by rw [(h.rw r hr).1];have:=h.n3;omega)⟩
 have hm:=h.m4;have he:∀x0,ZT (ZJ (Za 5)) (Zo 0) (λ_=>some true) inE 1 [] (I6 p x0)=some (.lst (p.W.map rwD)):=λx0=>XU (xs:=p.W.map rwD) (ZaH rfl) rfl hc (by rw [List.length_map];omega)
 have e5:∀x0,eCB Z0 (Zb (ZT (ZJ (Za 5)) (Zo 0) (λ_=>some true) inE 1 []) eNil) (I6 p x0)=some (.tup (p.W.map rwD)):=λx0=>(ZN (Zh (he x0) nil_of)).trans rfl
 have hf:f_QN (I6 p (some (.obj "Table" [] [])))=some (.nx (I6 p (some p.obj))):=by
  show Zd (Y6 0 YR "lead" (Za 1)) (Zd (Y6 0 XV "first" (Za 2)) (Zd (Y6 0 Y1 "ahead" (Za 3)) (Zd (Y6 0 Ja "homes" (eCB Z0 (Zb (Za 4) eNil))) (Y6 0 YS "ways" (eCB Z0 (Zb (ZT (ZJ (Za 5)) (Zo 0) (λ_=>some true) inE 1 []) eNil)))))) _=_
  rw [Zp (δ':=I6 p (some (.obj "Table" ["lead"] [.str p.lead]))) rfl,
   Zp (δ':=I6 p (some (.obj "Table" ["lead", "first"] [.str p.lead,nD p.first]))) rfl,
   Zp (δ':=I6 p (some (.obj "Table" ["lead", "first", "ahead"] [.str p.lead,nD p.first,nD p.ahead]))) rfl,
   Zp (δ':=I6 p (some (.obj "Table" ["lead", "first", "ahead", "homes"] [.str p.lead,nD p.first,nD p.ahead,.tup (p.hs.map nD)]))) rfl]
  unfold Y6;rw [e5];rfl
 show(match f_QN ([DL.D.obj "Table" [] [],.str p.lead,nD p.first,nD p.ahead,.tup (p.hs.map nD),.tup (p.W.map rwD)].map some++List.replicate (6-6) none)with
  |some (.nx δ)=>Za 0 δ
  |_=>none)=_
 rw [show([DL.D.obj "Table" [] [],.str p.lead,nD p.first,nD p.ahead,.tup (p.hs.map nD),.tup (p.W.map rwD)].map some++List.replicate (6-6) none)=I6 p (some (.obj "Table" [] []))from rfl,hf];rfl
theorem UT(p:Pl){i:Nat}{δ:DL.Env}(h:Za i δ=some p.obj):ZF YS "ways" (Za i) δ=some (.tup (p.W.map rwD)):=by unfold ZF;rw [h];rfl
theorem ZaJ(p:Pl){i:Nat}{δ:DL.Env}(h:Za i δ=some p.obj):ZF YR "lead" (Za i) δ=some (.str p.lead):=by unfold ZF;rw [h];rfl
theorem Za7(p:Pl){i:Nat}{δ:DL.Env}(h:Za i δ=some p.obj):ZF XV "first" (Za i) δ=some (nD p.first):=by unfold ZF;rw [h];rfl
theorem Jw(p:Pl){i:Nat}{δ:DL.Env}(h:Za i δ=some p.obj):ZF Y1 "ahead" (Za i) δ=some (nD p.ahead):=by unfold ZF;rw [h];rfl
theorem Pl.Ok.row{p:Pl}(h:p.Ok){a:Nat}(ha:a<p.W.length):∃r,p.W[a]? = some r/\ixD (.tup (p.W.map rwD)) (nD a)=some (rwD r)/\r.length=p.n/\∀x∈r,x.2<p.W.length/\x.1.length=p.q/\Vs x.1:=by
 have e:p.W[a]? = some p.W[a]:=List.getElem?_eq_getElem ha;exact⟨p.W[a],e,ix_tup (by rw [List.getElem?_map,e];rfl),h.rw _ (List.getElem_mem ha)⟩
theorem Pl.Ok.st{p:Pl}(h:p.Ok){a s:Nat}(ha:a<p.W.length)(hs:s<p.n):∃b a',st p.W a s=some (b,a'):=by
 obtain⟨r,e,_,l,_⟩:=h.row ha;unfold K44.st;rw [e];exact⟨(r[s]'(by omega)).1,(r[s]'(by omega)).2,List.getElem?_eq_getElem (by omega)⟩
theorem UU{p:Pl}(h:p.Ok){a s a':Nat}{b:List Nat}(e:st p.W a s=some (b,a')):∃r,p.W[a]? = some r/\ixD (.tup (p.W.map rwD)) (nD a)=some (rwD r)/\r[s]? = some (b,a')/\ixD (rwD r) (nD s)=some (prD (b,a'))/\a<p.W.length/\s<p.n/\a'<p.W.length/\b.length=p.q/\Vs b:=by
 unfold st at e;cases hr:p.W[a]? with
 |none=>rw [hr]at e;cases e
 |some r=>
  rw [hr]at e;have e:r[s]? = some (b,a'):=e;have ha:=(List.getElem?_eq_some_iff.mp hr).1;have hs:=(List.getElem?_eq_some_iff.mp e).1;obtain⟨h1,h2⟩:=h.rw r (List.mem_of_getElem? hr);obtain⟨h3,h4,h5⟩:=h2 _ (List.mem_of_getElem? e);exact⟨r,rfl,ix_tup (by rw [List.getElem?_map,hr];rfl),e,ix_tup (by rw [List.getElem?_map,e];rfl),ha,by omega,h3,h4,h5⟩
theorem ZfK{p:Pl}(h:p.Ok):∀(ss:List Nat)(a:Nat),(∀s∈ss,s<p.n)->a<p.W.length->∃bs e,Pth p.W a ss bs e
 | [],a,_,_=>⟨[],a,.nil a⟩
 |s::ss,a,hs,ha=>by
  obtain⟨b,a',e⟩:=h.st ha (hs s List.mem_cons_self);obtain⟨r,_,_,_,_,_,_,h1,_⟩:=UU h e;obtain⟨bs,e',ih⟩:=ZfK h ss a' (λx hx=>hs x (List.mem_cons_of_mem _ hx)) h1;exact⟨b::bs,e',.cons e ih⟩
theorem Zbo{W:List (List Pr)}{a e:Nat}{ss:List Nat}{bs:List (List Nat)}(h:Pth W a ss bs e):bs.length=ss.length:=by
 induction h with
 |nil=>rfl
 |cons _ _ ih=>rw [List.length_cons,List.length_cons,ih]
theorem ZfL{p:Pl}(o:p.Ok){a e:Nat}{ss:List Nat}{bs:List (List Nat)}(h:Pth p.W a ss bs e):∀b∈bs,b.length=p.q/\Vs b:=by
 induction h with
 |nil=>exact λb z=>nomatch z
 |cons s _ ih=>
  intro b hb;obtain⟨r,_,_,_,_,_,_,_,h2,h3⟩:=UU o s;rcases List.mem_cons.mp hb with rfl|hb
  · exact⟨h2,h3⟩
  · exact ih b hb
theorem Jx{q:Nat}:∀{bs:List (List Nat)},(∀b∈bs,b.length=q)->bs.flatten.length=bs.length*q/\(bs.map List.length).sum=bs.length*q
 | [],_=>by simp
 |b::bs,h=>by
  obtain⟨i1,i2⟩:=Jx (q:=q) (bs:=bs) λx hx=>h x (List.mem_cons_of_mem _ hx)
  have:=h b List.mem_cons_self;rw [List.flatten_cons,List.length_append,List.map_cons,List.sum_cons,List.length_cons,Nat.succ_mul,i1,i2];omega
theorem Ze4(p:Pl)(h:p.Ok):ZiM [p.obj]=some (nD p.n):=by
 obtain⟨r,h1,h2,h3,_⟩:=h.row (a:=0) (by have:=h.f;omega);refine Yz (δ:=[some p.obj]) rfl (Yx ?_);refine(ZN (Zh (x:=rwD r) ((Zk (y:=nD 0) (UT p rfl) rfl).trans h2) nil_of)).trans (len_tup.trans ?_);rw [List.length_map,h3]
theorem ZaB(p:Pl)(h:p.Ok){i:Nat}{δ:DL.Env}(hi:Za i δ=some p.obj):YZ "signs" V1 (Za i) eNil δ=some (nD p.n):=by
 unfold YZ;rw [hi];exact Ze4 p h
theorem ZgT(p:Pl)(h:p.Ok):ZiN [p.obj]=some (nD p.q):=by
 have q4:=h.q4;obtain⟨r,h1,h2,h3,h4⟩:=h.row (a:=0) (by have:=h.f;omega);have n1:=h.n1;have e:r[0]? = some (r[0]'(by omega)):=List.getElem?_eq_getElem (by omega);have hm:=(h4 _ (List.mem_of_getElem? e)).2.1;generalize (r[0]'(by omega))=x at e hm;refine Yz (δ:=[some p.obj]) rfl (Yx ?_);refine(ZN (Zh (x:=.str x.1) ((Zk (x:=prD x) (y:=nD 0) ((Zk (x:=rwD r) (y:=nD 0) ((Zk (y:=nD 0) (UT p rfl) rfl).trans h2) rfl).trans (ix_tup (by rw [List.getElem?_map,e];rfl))) rfl).trans rfl) nil_of)).trans ((len_str (by omega)).trans ?_)
 rw [hm]
theorem Zee(p:Pl)(h:p.Ok){i:Nat}{δ:DL.Env}(hi:Za i δ=some p.obj):YZ "block_length" Qw (Za i) eNil δ=some (nD p.q):=by
 unfold YZ;rw [hi];exact ZgT p h
def okS(n:Nat)(i:Nat):Bool:=decide (0<=(i:Int))&&decide ((i:Int)<(n:Int))
noncomputable def chE:DL.Env->Option D:=(Ua (ZQ λi j=>decide (i<=j)) (ZQ λi j=>decide (i<j)) (eC (.int 0)) (Za 0) (YZ "signs" V1 (Za 1) eNil))
theorem Zix(p:Pl)(h:p.Ok)(i:Nat):chE [some (nD i),some p.obj]=some (.bl (okS p.n i)):=by
 have e1:eOp (ZQ λi j=>decide (i<=j)) (eC (.int 0)) (Za 0) [some (nD i),some p.obj]=some (.bl (decide (0<=(i:Int)))):=rfl;have e2:eOp (ZQ λi j=>decide (i<j)) (Za 0) (YZ "signs" V1 (Za 1) eNil) [some (nD i),some p.obj]=some (.bl (decide ((i:Int)<(p.n:Int)))):=(Zk rfl (ZaB p h rfl)).trans rfl;unfold chE Ua okS;rw [e1]
 by_cases h0:0<=(i:Int)
 · rw [decide_eq_true h0]
   exact e2
 · omega
theorem Zb4(n:Nat):∀ss:List Nat,VR (ss.map λi=>D.bl (okS n i))=some (ss.map (okS n))
 | []=>rfl
 |i::ss=>by rw [List.map_cons,VR,Zb4 n ss];rfl
noncomputable def tst:DL.Env->Option Bool:=(YJ (xB (eCB (Qb λbs=>bs.all id) (Zb (ZT (ZJ (Za 1)) (Zo 0) (λ_=>some true) chE 1 [0]) eNil))))
theorem Ziy(p:Pl)(h:p.Ok)(ss:List Nat)(hs:∀s∈ss,s<p.n)(hl:ss.length<=1000)(v2 v3 v4 v5:Option D):tst [some p.obj,some (AD ss),v2,v3,v4,v5]=some false:=by
 have hc:ZZ (Zo 0) (λ_=>some true) chE [none,some p.obj] (ss.map nD)=some (ss.map λi=>D.bl (okS p.n i)):=XZ nD _ _ λi _=>⟨[some (nD i),some p.obj],rfl,Zix p h i⟩
 have he:ZT (ZJ (Za 1)) (Zo 0) (λ_=>some true) chE 1 [0] [some p.obj,some (AD ss),v2,v3,v4,v5]=some (.lst (ss.map λi=>D.bl (okS p.n i))):=XU (xs:=ss.map nD) rfl rfl hc (by rw [List.length_map];omega)
 have ha:(ss.map (okS p.n)).all id=true:=by
  rw [List.all_map,List.all_eq_true];intro s hx;have:=hs s hx;show okS p.n s=true;unfold okS;rw [decide_eq_true (by omega),decide_eq_true (by omega)];rfl
 refine UN (b:=true) (ZX ((ZN (Zh he nil_of)).trans ?_));unfold Qb;dsimp only;rw [Zb4];dsimp only;rw [ha]
noncomputable def wrB:DL.Env->Option Out:=(Zd (Zg 5 (eOp ixD (eOp ixD (ZF YS "ways" (Za 0)) (Za 3)) (Za 4))) (Zd (ZW 2 (eOp ixD (Za 5) (eC (.int 0)))) (Zg 3 (eOp ixD (Za 5) (eC (.int 1))))))
theorem ZgU(p:Pl)(h:p.Ok)(x1:Option D){a e:Nat}{ss:List Nat}{bs:List (List Nat)}(P:Pth p.W a ss bs e):∀(acc:List D)(v4 v5:Option D),acc.length+ss.length<=1000->∃w3 w4 w5,ZP (Zo 4) wrB (ss.map nD) [some p.obj,x1,some (.lst acc),some (nD a),v4,v5]=some (.nx [some p.obj,x1,some (.lst (acc++bs.map D.str)),w3,w4,w5]):=by
 induction P with
 |nil a=>exact λacc v4 v5 _=>⟨_,_,_,by rw [List.map_nil,List.map_nil,List.append_nil];rfl⟩
 |cons hst P ih=>
  rename_i a s a' e b ss bs;intro acc v4 v5 hl;rw [List.length_cons]at hl;obtain⟨r,_,e3,_,e4,_⟩:=UU h hst;have t1:Zg 5 (eOp ixD (eOp ixD (ZF YS "ways" (Za 0)) (Za 3)) (Za 4)) [some p.obj,x1,some (.lst acc),some (nD a),some (nD s),v5]=some (.nx [some p.obj,x1,some (.lst acc),some (nD a),some (nD s),some (prD (b,a'))]):=Zz ((Zk (x:=rwD r) (y:=nD s) ((Zk (y:=nD a) (UT p rfl) rfl).trans e3) rfl).trans e4)
  have t2:ZW 2 (eOp ixD (Za 5) (eC (.int 0))) [some p.obj,x1,some (.lst acc),some (nD a),some (nD s),some (prD (b,a'))]=some (.nx [some p.obj,x1,some (.lst (acc++[.str b])),some (nD a),some (nD s),some (prD (b,a'))]):=XE (xs:=acc) rfl ((Zk (x:=prD (b,a')) (y:=.int 0) rfl rfl).trans rfl) (by omega);have t3:Zg 3 (eOp ixD (Za 5) (eC (.int 1))) [some p.obj,x1,some (.lst (acc++[.str b])),some (nD a),some (nD s),some (prD (b,a'))]=some (.nx [some p.obj,x1,some (.lst (acc++[.str b])),some (nD a'),some (nD s),some (prD (b,a'))]):=Zz ((Zk (x:=prD (b,a')) (y:=.int 1) rfl rfl).trans rfl)
  obtain⟨w3,w4,w5,ih⟩:=ih (acc++[.str b]) (some (nD s)) (some (prD (b,a'))) (by rw [List.length_append,List.length_singleton];omega);refine⟨w3,w4,w5,?_⟩;rw [List.append_assoc]at ih;rw [List.map_cons,List.map_cons];unfold ZP;have eg:Zo 4 (nD s) [some p.obj,x1,some (.lst acc),some (nD a),v4,v5]=some [some p.obj,x1,some (.lst acc),some (nD a),some (nD s),v5]:=rfl;rw [eg]
  dsimp only
  have hb:wrB [some p.obj,x1,some (.lst acc),some (nD a),some (nD s),v5]=some (.nx [some p.obj,x1,some (.lst (acc++[.str b])),some (nD a'),some (nD s),some (prD (b,a'))]):=by
   unfold wrB;rw [Zp t1,Zp t2,t3]
  rw [hb];exact ih
noncomputable def wrA:DL.Env->Option D:=(eOp Uj (eCB Vo (Zb (Za 1) eNil)) (eOp Qi (Zv (Zb (eC (.int 0)) eNil)) (ZF Y1 "ahead" (Za 0))))
theorem Zct:f_QS=Zd (sIf tst sNever sNext) (Zd (Zg 2 (Zv (Zb (ZF YR "lead" (Za 0)) eNil))) (Zd (Zg 3 (ZF XV "first" (Za 0))) (Zd (ZB (ZJ wrA) (Zo 4) wrB) (ZA (eBM joinD (eC (.str [])) (Zb (Za 2) eNil)))))):=rfl
theorem Zj4(k:Nat):(List.replicate k [D.int 0]).flatten=(List.replicate k 0).map nD:=by
 rw [List.flatten_replicate_singleton,List.map_replicate];rfl
theorem Zj5(p:Pl)(h:p.Ok)(ss:List Nat)(hl:ss.length<=100)(δ:DL.Env)(h0:Za 0 δ=some p.obj)(h1:Za 1 δ=some (AD ss)):wrA δ=some (AD (ss++List.replicate p.ahead 0)):=by
 have hah:=h.a5;have e1:eCB Vo (Zb (Za 1) eNil) δ=some (AD ss):=(ZN (Zh h1 nil_of)).trans rfl
 have e2:eOp Qi (Zv (Zb (eC (.int 0)) eNil)) (ZF Y1 "ahead" (Za 0)) δ=some (AD (List.replicate p.ahead 0)):=by
  rw [Zk (Yy (Zh (x:=.int 0) rfl nil_of) (by show 1<=1000;decide)) (Jw p h0)];refine(ZgE (a:=[.int 0]) (n:=p.ahead) (by show 1*p.ahead<=100000;omega) (by omega)).trans ?_;rw [Zj4]
 refine(Zk e1 e2).trans ((Zds (by rw [List.length_map,List.length_map,List.length_replicate];omega)).trans ?_);rw [AD,List.map_append]
theorem Ziz(p:Pl)(h:p.Ok)(bs:List (List Nat))(h1:bs.length<=1000)(h2:(bs.map List.length).sum<=10000):joinD [] [.lst ([D.str p.lead]++bs.map D.str)]=some (.str (p.lead++bs.flatten)):=by
 have hld:=h.l;unfold joinD;dsimp only;rw [show([D.str p.lead]++bs.map D.str)=(p.lead::bs).map D.str from rfl,ZeF];dsimp only;rw [if_pos (by rw [PySem.sizeLine_eq,List.map_cons,List.sum_cons];simp only [List.length_nil,Nat.mul_zero];omega),JS];rfl
theorem Zcu(p:Pl)(h:p.Ok){ss:List Nat}{bs:List (List Nat)}{e:Nat}(hs:∀s∈ss,s<p.n)(hl:ss.length<=100)(P:Pth p.W p.first (ss++List.replicate p.ahead 0) bs e):Qv [p.obj,AD ss]=some (.str (p.lead++bs.flatten)):=by
 have a5:=h.a5;have q4:=h.q4;have hlen:=Zbo P;rw [List.length_append,List.length_replicate]at hlen;have hfl:=(Jx (q:=p.q) λb hb=>(ZfL h P b hb).1).2;have hmul:bs.length*p.q<=105*4:=Nat.mul_le_mul (by omega) q4;have t1:sIf tst sNever sNext [some p.obj,some (AD ss),none,none,none,none]=some (.nx [some p.obj,some (AD ss),none,none,none,none]):=(Ye (Ziy p h ss hs (by omega) none none none none)).trans rfl
 have t2:Zg 2 (Zv (Zb (ZF YR "lead" (Za 0)) eNil)) [some p.obj,some (AD ss),none,none,none,none]=some (.nx [some p.obj,some (AD ss),some (.lst [.str p.lead]),none,none,none]):=Zz (Yy (Zh (ZaJ p rfl) nil_of) (by show 1<=1000;decide));have t3:Zg 3 (ZF XV "first" (Za 0)) [some p.obj,some (AD ss),some (.lst [.str p.lead]),none,none,none]=some (.nx [some p.obj,some (AD ss),some (.lst [.str p.lead]),some (nD p.first),none,none]):=Zz (Za7 p rfl)
 obtain⟨w3,w4,w5,hloop⟩:=ZgU p h (some (AD ss)) P [.str p.lead] none none (by rw [List.length_append,List.length_replicate];show 1+_<=1000;omega);refine Yz rfl ?_;rw [Zct];refine(Zp t1).trans ?_;rw [Zp t2,Zp t3,Zp (Ym (XF (Zj5 p h ss hl _ rfl rfl)) hloop)];exact Yx ((Q8 (s:=[]) rfl (Zh (x:=.lst ([D.str p.lead]++bs.map D.str)) rfl nil_of)).trans (Ziz p h bs (by omega) (by omega)))
end K44
namespace K44
open DL L2
theorem cut_from{α:Type}(r:List α)(j:Nat):cutL r (some (j:Int)) none=r.drop j:=by
 unfold cutL Z3;have e:¬((j:Int)<0):=by omega
 have e2:((j:Int)).toNat=j:=by omega
 simp only [e,if_false,e2]
 by_cases h:j<=r.length
 · rw [Nat.min_eq_left h]
   exact List.take_of_length_le (by simp)
 · rw [Nat.min_eq_right (by omega),List.drop_of_length_le (Nat.le_refl _),List.drop_of_length_le (by omega)]
   simp
theorem Zdt{α:Type}(r:List α){j k:Nat}(h1:j<=k)(h2:k<=r.length):cutL r (some (j:Int)) (some (k:Int))=(r.drop j).take (k-j):=by
 unfold cutL Z3;have e:¬((j:Int)<0):=by omega
 have e':¬((k:Int)<0):=by omega
 simp only [e,e',if_false,Int.toNat_natCast];rw [Nat.min_eq_left h2,Nat.min_eq_left (by omega)]
theorem Zbp{α β:Type}(f:α->β)(xs:List α)(lo hi:Option Int):cutL (xs.map f) lo hi=(cutL xs lo hi).map f:=by
 unfold cutL;rw [List.length_map,List.map_take,List.map_drop]
theorem ZcL{a:DL.Env->Option D}{lo hi:DL.Env->Option (Option Int)}{δ:DL.Env}{xs:List D}{l u:Option Int}(h1:a δ=some (.lst xs))(h2:lo δ=some l)(h3:hi δ=some u):eSl a lo hi δ=some (.lst (cutL xs l u)):=by
 unfold eSl;rw [h1,h2,h3];rfl
theorem ZiA{a:DL.Env->Option D}{lo hi:DL.Env->Option (Option Int)}{δ:DL.Env}{w:List Nat}{l u:Option Int}(h1:a δ=some (.str w))(h2:lo δ=some l)(h3:hi δ=some u)(hl:w.length<=100000):eSl a lo hi δ=some (.str (cutL w l u)):=by
 unfold eSl;rw [h1,h2,h3];exact if_pos (by rw [PySem.sizeLine_eq];omega)
theorem QG{e:DL.Env->Option D}{δ:DL.Env}{i:Int}(h:e δ=some (.int i)):xP e δ=some (some i):=by
 unfold xP;rw [h]
theorem ZfM{l k:Nat}{q:Int}(hq:q=1\/q=2\/q=3\/q=4):PySem.Builtin.Range.rangeSize (l:Int) ((l:Int)+(k:Int)*q) q=(k:Int):=by
 unfold PySem.Builtin.Range.rangeSize;rcases hq with rfl|rfl|rfl|rfl
 · rw [if_pos (by decide)];split<;>omega
 · rw [if_pos (by decide)];split<;>omega
 · rw [if_pos (by decide)];split<;>omega
 · rw [if_pos (by decide)];split<;>omega
theorem ZgV{l k:Nat}{q:Int}(hl:l<=1000)(hk:k<=1000)(hq:q=1\/q=2\/q=3\/q=4):PySem.Builtin.Range.small (l:Int) ((l:Int)+(k:Int)*q) q=true:=by
 have hj:(l:Int)+(k:Int)*q<=10000/\0<=(l:Int)+(k:Int)*q:=by
  rcases hq with rfl|rfl|rfl|rfl<;>omega
 have sz:=ZfM (l:=l) (k:=k) hq;generalize (l:Int)+(k:Int)*q=j at *;unfold PySem.Builtin.Range.small;rw [sz];simp only [PySem.Builtin.Range.rangeFitsLong,Bool.and_eq_true,Bool.or_eq_true,decide_eq_true_eq,beq_iff_eq];rw [if_pos (by omega:q>0)];simp only [Bool.and_eq_true,decide_eq_true_eq];omega
theorem Zj6{α:DL.Env->Option (List D)}{δ:DL.Env}{l k q:Nat}(hq1:1<=q)(hq:q<=4)(hl:l<=1000)(hk:k<=1000)(h:α δ=some [nD l,nD (l+k*q),nD q]):ZH α δ=some ((List.range k).map λi=>nD (l+i*q)):=by
 have s1:=ZgV (l:=l) (k:=k) (q:=(q:Int)) hl hk (by omega);have s2:=ZfM (l:=l) (k:=k) (q:=(q:Int)) (by omega);have e:((l+k*q:Nat):Int)=(l:Int)+(k:Int)*(q:Int):=by rw [Int.natCast_add,Int.natCast_mul]
 unfold ZH;rw [h];dsimp only;rw [e,if_pos ⟨by omega,by omega,s1⟩,s2,Int.toNat_natCast];unfold Yr;refine congrArg some (List.map_congr_left λi _ => ?_);rw [nD,Int.natCast_add,Int.natCast_mul]
theorem Zdu{q:Nat}:∀(i:Nat){bs:List (List Nat)},(∀b∈bs,b.length=q)->bs.flatten.drop (i*q)=(bs.drop i).flatten
 |0,bs,_=>by rw [Nat.zero_mul,List.drop_zero,List.drop_zero]
 |i+1,[],_=>by simp
 |i+1,b::bs,h=>by
  have hb:=h b List.mem_cons_self;rw [List.flatten_cons,List.drop_succ_cons,Nat.succ_mul,Nat.add_comm,<-List.drop_drop,List.drop_left' hb];exact Zdu i λx hx=>h x (List.mem_cons_of_mem _ hx)
theorem ZgW{q:Nat}{lead:List Nat}{bs:List (List Nat)}(h:∀b∈bs,b.length=q){i:Nat}(hi:i<bs.length):cutL (lead++bs.flatten) (some ((lead.length+i*q:Nat):Int)) (some ((lead.length+i*q+q:Nat):Int))=bs.getD i []:=by
 have hl:=(Jx h).1;have h1:(i+1)*q<=bs.length*q:=Nat.mul_le_mul_right q hi;rw [Nat.succ_mul]at h1;rw [Zdt _ (by omega) (by rw [List.length_append,hl];omega),Nat.add_sub_cancel_left];rw [<-List.drop_drop,List.drop_left' rfl,Zdu i h,List.drop_eq_getElem_cons hi,List.flatten_cons,List.take_left' (h _ (List.getElem_mem hi)),List.getD_eq_getElem?_getD,List.getElem?_eq_getElem hi]
 rfl
theorem ZiB(bs:List (List Nat)):((List.range bs.length).map λi=>D.str (bs.getD i []))=bs.map D.str:=by
 refine List.ext_getElem? λi => ?_
 by_cases h:i<bs.length
 · have e:bs[i]? = some (bs.getD i []):=by rw [List.getD_eq_getElem?_getD,List.getElem?_eq_getElem h];rfl
   rw [List.getElem?_map,List.getElem?_map,List.getElem?_range h,e];rfl
 · rw [List.getElem?_eq_none (by simpa using h),List.getElem?_eq_none (by simpa using h)]
noncomputable def bbT:DL.Env->Option Bool:=(xOr (xB (eOp (ZQ λi j=>decide (i<j)) (eCB lenD (Zb (Za 1) eNil)) (eCB lenD (Zb (ZF YR "lead" (Za 0)) eNil)))) (xB (eOp neD (eOp modW (eOp subD (eCB lenD (Zb (Za 1) eNil)) (eCB lenD (Zb (ZF YR "lead" (Za 0)) eNil))) (Za 2)) (eC (.int 0)))))
noncomputable def bbI:DL.Env->Option (List D):=(ZH (Zb (eCB lenD (Zb (ZF YR "lead" (Za 0)) eNil)) (Zb (eCB lenD (Zb (Za 1) eNil)) (Zb (Za 2) eNil))))
noncomputable def bbE:DL.Env->Option D:=(eSl (Za 1) (xP (Za 0)) (xP (eOp addX (Za 0) (Za 2))))
noncomputable def bbU:DL.Env->Option Bool:=(xB (eOp (ZQ λi j=>decide (i<j)) (eCB lenD (Zb (Za 3) eNil)) (ZF Y1 "ahead" (Za 0))))
theorem Zef:f_QC=Zd (Zg 2 (YZ "block_length" Qw (Za 0) eNil)) (Zd (sIf bbT sNever sNext) (Zd (Zg 3 (ZT bbI (Zo 0) (λ_=>some true) bbE 1 [1,2])) (Zd (sIf bbU sNever sNext) (ZA (Za 3))))):=rfl
theorem Zeg(p:Pl)(h:p.Ok){bs:List (List Nat)}(hb:∀b∈bs,b.length=p.q)(h1:p.ahead<=bs.length)(h2:bs.length<=1000):Qx [p.obj,.str (p.lead++bs.flatten)]=some (.lst (bs.map D.str)):=by
 have hl:=h.l;have q1:=h.q1;have q4:=h.q4;have hf:=(Jx hb).1;have hm:bs.length*p.q<=1000*4:=Nat.mul_le_mul h2 q4;have hrl:(p.lead++bs.flatten).length=p.lead.length+bs.length*p.q:=by rw [List.length_append,hf]
 generalize hR:p.lead++bs.flatten=row at hrl;have t2:Zg 2 (YZ "block_length" Qw (Za 0) eNil) [some p.obj,some (.str row),none,none]=some (.nx [some p.obj,some (.str row),some (nD p.q),none]):=Zz (Zee p h rfl);have eL:∀v3,eCB lenD (Zb (ZF YR "lead" (Za 0)) eNil) [some p.obj,some (.str row),some (nD p.q),v3]=some (nD p.lead.length):=λv3=>(ZN (Zh (ZaJ p rfl) nil_of)).trans (len_str (by omega))
 have eR:∀v3,eCB lenD (Zb (Za 1) eNil) [some p.obj,some (.str row),some (nD p.q),v3]=some (nD (p.lead.length+bs.length*p.q)):=λv3=>(ZN (Zh (x:=.str row) rfl nil_of)).trans ((len_str (by omega)).trans (by rw [hrl]))
 have eT:bbT [some p.obj,some (.str row),some (nD p.q),none]=some false:=by
  refine Qu (ZX ((Zk (eR none) (eL none)).trans ?_)) (ZX ((Zk (y:=.int 0) ((Zk (y:=nD p.q) ((Zk (eR none) (eL none)).trans (ZcG _ _)) rfl).trans (Yt (by omega))) rfl).trans ?_))
  · show some (D.bl (decide (((p.lead.length+bs.length*p.q:Nat):Int)<(p.lead.length:Int))))=_
    rw [decide_eq_false (by omega)]
  · have : (((p.lead.length + bs.length * p.q : Nat) : Int) - (p.lead.length : Int)) = (bs.length : Int) * (p.q : Int) := by
     rw [Int.natCast_add,Int.natCast_mul];omega
    rw [this,Int.mul_fmod_left,Zbm,decide_eq_true rfl];rfl
 have tT:sIf bbT sNever sNext [some p.obj,some (.str row),some (nD p.q),none]=some (.nx [some p.obj,some (.str row),some (nD p.q),none]):=(Ye eT).trans rfl;have hI:bbI [some p.obj,some (.str row),some (nD p.q),none]=some ((List.range bs.length).map λi=>nD (p.lead.length+i*p.q)):=Zj6 q1 q4 (by omega) h2 (Zh (eL none) (Zh (eR none) (Zh (x:=nD p.q) rfl nil_of)))
 have hc:ZZ (Zo 0) (λ_=>some true) bbE [none,some (.str row),some (nD p.q)] ((List.range bs.length).map λi=>nD (p.lead.length+i*p.q))=some ((List.range bs.length).map λi=>D.str (bs.getD i [])):=XZ _ _ _ λi hi=>⟨[some (nD (p.lead.length+i*p.q)),some (.str row),some (nD p.q)],rfl,by
  have hi:=List.mem_range.mp hi;refine(ZiA (w:=row) rfl (QG (i:=((p.lead.length+i*p.q:Nat):Int)) rfl) (QG (i:=((p.lead.length+i*p.q+p.q:Nat):Int)) ((Zk (x:=nD (p.lead.length+i*p.q)) (y:=nD p.q) rfl rfl).trans ((add_int _ _).trans (by rw [Int.natCast_add (p.lead.length+i*p.q)])))) (by omega)).trans ?_;rw [<-hR,ZgW hb hi]⟩
 rw [ZiB]at hc;have t3:Zg 3 (ZT bbI (Zo 0) (λ_=>some true) bbE 1 [1,2]) [some p.obj,some (.str row),some (nD p.q),none]=some (.nx [some p.obj,some (.str row),some (nD p.q),some (.lst (bs.map D.str))]):=Zz (XU hI rfl hc (by rw [List.length_map];omega))
 have eU:bbU [some p.obj,some (.str row),some (nD p.q),some (.lst (bs.map D.str))]=some false:=by
  refine ZX ((Zk (x:=nD bs.length) ((ZN (Zh (x:=.lst (bs.map D.str)) rfl nil_of)).trans (len_lst.trans (by rw [List.length_map]))) (Jw p rfl)).trans ?_);show some (D.bl (decide ((bs.length:Int)<(p.ahead:Int))))=_;rw [decide_eq_false (by omega)]
 have tU:sIf bbU sNever sNext [some p.obj,some (.str row),some (nD p.q),some (.lst (bs.map D.str))]=some (.nx [some p.obj,some (.str row),some (nD p.q),some (.lst (bs.map D.str))]):=(Ye eU).trans rfl;refine Yz rfl ?_;rw [Zef];refine(Zp t2).trans ?_;rw [Zp tT,Zp t3,Zp tU];exact Yx rfl
end K44
namespace K44
open DL L2
theorem Ze5{γ:D->DL.Env->Option DL.Env}{φ:DL.Env->Option Out}{x:D}{δ δ1 δ2:DL.Env}(h1:γ x δ=some δ1)(h2:φ δ1=some (.nx δ2)):ZP γ φ [x] δ=some (.nx δ2):=by
 unfold ZP;rw [h1];dsimp only;rw [h2];rfl
theorem ZhL:∀(xs:List D)(k j:Nat)(x:D),(Xc k xs)[j]? = some x->∃y,xs[j]? = some y/\x = .tup [nD (k+j),y]
 | [],k,j,x,h=>by simp [Xc]at h
 |y::xs,k,0,x,h=>⟨y,rfl,(Option.some.inj h).symm⟩
 |y::xs,k,j+1,x,h=>by
  obtain⟨z,h1,h2⟩:=ZhL xs (k+1) j x (by simpa [Xc]using h);exact⟨z,by simpa using h1,by rw [h2,show k+1+j=k+(j+1) by omega]⟩
abbrev Kp:=Nat×Nat
def kk(x:Kp):List Key:=[.inl (x.1:Int),.inl (x.2:Int)]
theorem ZiC{x y:Kp}(h:kk x=kk y):x=y:=by
 unfold kk at h;have h1:=Sum.inl.inj (List.cons.inj h).1;have h2:=Sum.inl.inj (List.cons.inj (List.cons.inj h).2).1;exact Prod.ext (by omega) (by omega)
theorem ZfN(x:Kp):∀K:List Kp,Ui (kk x) (K.map kk)=decide (x∈K)
 | []=>by simp [Ui]
 |y::K=>by
  show(decide (kk y=kk x)||Ui (kk x) (K.map kk))=_;rw [ZfN x K]
  by_cases h:y=x
  · subst h;simp
  · have h2:¬x=y:=λz=>h z.symm
    simp [h2,show ¬kk y=kk x from λz=>h (ZiC z)]
def ins(K:List Kp)(x:Kp):List Kp:=if x∈K then K else K++[x]
theorem Zdv{K:List Kp}{x y:Kp}:y∈ins K x ↔ y∈K\/y=x:=by
 unfold ins
 by_cases h:x∈K
 · rw [if_pos h]
   exact⟨.inl,λz=>z.elim id λe=>e▸h⟩
 · rw [if_neg h,List.mem_append,List.mem_singleton]
theorem Zdw(K:List Kp)(x:Kp):(ins K x).length<=K.length+1:=by
 unfold ins
 by_cases h:x∈K
 · rw [if_pos h];omega
 · rw [if_neg h,List.length_append];exact Nat.le_refl _
abbrev dd(K:List Kp)(xs:List D):D := .dtt (K.map kk) xs
theorem ZfO{i:Nat}{κ ε:DL.Env->Option D}{δ:DL.Env}{K:List Kp}{xs:List D}{s p:Nat}{d:D}(h1:ε δ=some d)(h2:Za i δ=some (dd K xs))(h3:κ δ=some (.tup [nD s,nD p]))(hl:K.length<=10000):∃xs',Vr i κ ε δ=some (.nx (δ.set i (some (dd (ins K (s,p)) xs')))):=by
 unfold Vr;rw [h1,h2,h3];have e:Qo (.tup [nD s,nD p])=some (kk (s,p)):=rfl;dsimp only;rw [e];dsimp only;rw [if_pos (by rw [List.length_map,PySem.sizeLine_eq];omega)];unfold Qm ins;rw [ZfN]
 by_cases h:(s,p)∈K
 · rw [if_pos (decide_eq_true h),if_pos h]
   exact⟨_,rfl⟩
 · refine⟨xs++[d],?_⟩
   rw [if_neg (by simpa using h),if_neg h,show dd (K++[(s,p)]) (xs++[d]) = .dtt (K.map kk++[kk (s,p)]) (xs++[d]) by rw [dd,List.map_append];rfl]
theorem Ze6{W:List (List Pr)}{a e e' t:Nat}{b:List Nat}{ss:List Nat}{bs:List (List Nat)}(h:Pth W a ss bs e)(s:st W e t=some (b,e')):Pth W a (ss++[t]) (bs++[b]) e':=by
 induction h with
 |nil a=>exact .cons s (.nil _)
 |cons h1 h2 ih=>exact .cons h1 (ih s)
theorem Zdx{W:List (List Pr)}{b:List Nat}{e':Nat}:∀(bs:List (List Nat))(a:Nat)(ss:List Nat),Pth W a ss (bs++[b]) e'->∃ss0 t e,ss=ss0++[t]/\Pth W a ss0 bs e/\st W e t=some (b,e')
 | [],a,ss,h=>by
  cases h with
  |cons h1 h2=>
   cases h2;exact⟨[],_,a,rfl,.nil a,h1⟩
 |b0::bs,a,ss,h=>by
  cases h with
  |cons h1 h2=>
   obtain⟨ss0,t,e,e1,e2,e3⟩:=Zdx bs _ _ h2;subst e1;exact⟨_::ss0,t,e,rfl,.cons h1 e2,e3⟩
theorem ZgX{p:Pl}(o:p.Ok){a e:Nat}{ss:List Nat}{bs:List (List Nat)}(ha:a<p.W.length)(h:Pth p.W a ss bs e):e<p.W.length:=by
 induction h with
 |nil=>exact ha
 |cons h1 h2 ih=>
  obtain⟨r,_,_,_,_,_,_,l,_⟩:=UU o h1;exact ih l
theorem Ze7{W:List (List Pr)}{a e:Nat}{ss:List Nat}{bs:List (List Nat)}(h:Pth W a ss bs e):∀k,∃e',Pth W a (ss.take k) (bs.take k) e':=by
 induction h with
 |nil a=>exact λk=>⟨a,by rw [List.take_nil,List.take_nil];exact .nil a⟩
 |cons h1 h2 ih=>
  intro k;cases k with
  |zero=>exact⟨_,.nil _⟩
  |succ k=>
   obtain⟨e',ih⟩:=ih k;exact⟨e',.cons h1 ih⟩
noncomputable def sK:DL.Env->Option D:=(Yc (Zb (Za 5) (Zb (eOp ixD (Za 6) (eC (.int 1))) eNil)))
noncomputable def s1B:DL.Env->Option Out:=(sIf (xB (eOp eqD (eOp ixD (Za 6) (eC (.int 0))) (eOp ixD (Za 2) (eC (.int 0))))) (Vr 3 sK (eC (.bl true))) sNext)
noncomputable def s1E:DL.Env->Option Out:=(ZB (Qq (eOp ixD (ZF YS "ways" (Za 0)) (Za 4))) (ZS 2 (ZG 5 (ZG 6 gsNil))) s1B)
noncomputable def s2I:DL.Env->Option Out:=(sIf (xB (eOp eqD (eOp ixD (Za 6) (eC (.int 0))) (Za 7))) (Vr 8 sK (eC (.bl true))) sNext)
noncomputable def s2K:DL.Env->Option Out:=(ZB (ZJ (eOp ixD (ZF YS "ways" (Za 0)) (Za 4))) (Zo 6) s2I)
noncomputable def s2T:DL.Env->Option Out:=(Qr 3 2 (ZG 5 (ZG 4 gsNil)) s2K)
noncomputable def s2B:DL.Env->Option Out:=(Zd (Zg 8 (eC (.dtt [] []))) (Zd s2T (Q5 3 8)))
noncomputable def s3C:DL.Env->Option Out:=(Qs 3 9 2 (ZG 0 (ZG 1 gsNil)) (λ_=>some true) (Za 0) 2 [])
noncomputable def s4R:DL.Env->Option D:=(ZT (ZH (Zb (YZ "signs" V1 (Za 0) eNil) eNil)) (Zo 0) (xB (eOp (inD false) (Za 0) (Za 1))) (Za 0) 1 [9])
theorem Zcv:f_QE=Zd (Zg 3 (eC (.dtt [] []))) (Zd (ZB (ZJ (Za 1)) (Zo 4) s1E) (Zd (ZB (ZJ (eSl (Za 2) (xP (eC (.int 1))) xNoP)) (Zo 7) s2B) (Zd s3C (ZA s4R)))):=rfl
abbrev S10(p:Pl)(bs:List (List Nat))(v1 v3 v4 v5 v6 v7 v8 v9:Option D):DL.Env:=[some p.obj,v1,some (.lst (bs.map D.str)),v3,v4,v5,v6,v7,v8,v9]
section
variable{p:Pl}{bs:List (List Nat)}
theorem ZhM(v1 v3 v4 v7 v8 v9:Option D)(s:Nat)(x:Pr):sK (S10 p bs v1 v3 v4 (some (nD s)) (some (prD x)) v7 v8 v9)=some (.tup [nD s,nD x.2]):=V0 (Zh (x:=nD s) rfl (Zh (x:=nD x.2) ((Zk (x:=prD x) (y:=.int 1) rfl rfl).trans rfl) nil_of)) (by show 2<=1000;decide)
theorem ZiD{b0:List Nat}(hb:bs[0]? = some b0)(v1 v4 v7 v8 v9:Option D)(s:Nat)(x:Pr)(K:List Kp)(xs:List D)(hl:K.length<=10000):∃xs',s1B (S10 p bs v1 (some (dd K xs)) v4 (some (nD s)) (some (prD x)) v7 v8 v9)=some (.nx (S10 p bs v1 (some (dd (if x.1=b0 then ins K (s,x.2)else K) xs')) v4 (some (nD s)) (some (prD x)) v7 v8 v9)):=by
 have et:xB (eOp eqD (eOp ixD (Za 6) (eC (.int 0))) (eOp ixD (Za 2) (eC (.int 0)))) (S10 p bs v1 (some (dd K xs)) v4 (some (nD s)) (some (prD x)) v7 v8 v9)=some (decide (x.1=b0)):=ZX ((Zk (x:=.str x.1) (y:=.str b0) ((Zk (x:=prD x) (y:=.int 0) rfl rfl).trans rfl) ((Zk (x:=.lst (bs.map D.str)) (y:=nD 0) rfl rfl).trans (Um (by rw [List.getElem?_map,hb];rfl)))).trans (Qt _ _))
 by_cases h:x.1=b0
 · rw [decide_eq_true h]at et
   obtain⟨xs',e⟩:=ZfO (i:=3) (κ:=sK) (ε:=eC (.bl true)) (δ:=S10 p bs v1 (some (dd K xs)) v4 (some (nD s)) (some (prD x)) v7 v8 v9) (s:=s) (p:=x.2) rfl rfl (ZhM _ _ _ _ _ _ s x) hl;rw [if_pos h];exact⟨xs',(Y7 et).trans e⟩
 · rw [decide_eq_false h]at et
   rw [if_neg h];exact⟨xs,(Ye et).trans rfl⟩
theorem ZiE(o:p.Ok){b0:List Nat}(hb:bs[0]? = some b0){a:Nat}(ha:a<p.W.length)(v1 v5 v6 v7 v8 v9:Option D):∃K xs w5 w6,s1E (S10 p bs v1 (some (dd [] [])) (some (nD a)) v5 v6 v7 v8 v9)=some (.nx (S10 p bs v1 (some (dd K xs)) (some (nD a)) w5 w6 v7 v8 v9))/\K.length<=3/\∀y:Kp,y∈K ↔ st p.W a y.1=some (b0,y.2):=by
 obtain⟨r,hr,er,rl,_⟩:=o.row ha;have n3:=o.n3
 obtain⟨δ',f,K,xs,w5,w6,e,k1,k2⟩:=Y0 (γ:=ZS 2 (ZG 5 (ZG 6 gsNil))) (φ:=s1B) (λj δ=>∃K xs w5 w6,δ=S10 p bs v1 (some (dd K xs)) (some (nD a)) w5 w6 v7 v8 v9/\K.length<=j/\∀y:Kp,y∈K ↔ y.1<j/\r[y.1]? = some (b0,y.2)) (Xc 0 (r.map prD)) 0 (S10 p bs v1 (some (dd [] [])) (some (nD a)) v5 v6 v7 v8 v9) ⟨[],[],v5,v6,rfl,Nat.le_refl _,λy=>⟨λz=>(nomatch z),λz=>absurd z.1 (by omega)⟩⟩ (by
  rintro j x δ hx ⟨K,xs,w5,w6,rfl,k1,k2⟩
  obtain⟨y,hy,rfl⟩:=ZhL _ _ _ _ hx;rw [List.getElem?_map]at hy;cases hz:r[j]? with
  |none=>rw [hz]at hy;cases hy
  |some z=>
   rw [hz]at hy;cases hy;rw [Nat.zero_add]at k1 k2 ⊢;have hj:=(List.getElem?_eq_some_iff.mp hz).1;obtain⟨xs',e⟩:=ZiD (p:=p) hb v1 (some (nD a)) v7 v8 v9 j z K xs (by omega);refine⟨S10 p bs v1 (some (dd K xs)) (some (nD a)) (some (nD j)) (some (prD z)) v7 v8 v9,rfl,_,e,_,xs',_,_,rfl,?_,λy => ?_⟩
   · by_cases h:z.1=b0
     · rw [if_pos h];have:=Zdw K (j,z.2);omega
     · rw [if_neg h];omega
   · by_cases h:z.1=b0
     · rw [if_pos h,Zdv,k2 y]
       constructor
       · rintro(⟨h1,h2⟩|rfl)
         · exact⟨by omega,h2⟩
         · exact⟨by show j<j+1;omega,by show r[j]? = some (b0,z.2);rw [hz,<-h]⟩
       · rintro⟨h1,h2⟩
         by_cases hj':y.1=j
         · refine .inr (Prod.ext hj' ?_)
           rw [hj',hz]at h2;exact(congrArg Prod.snd (Option.some.inj h2)).symm
         · exact .inl ⟨by omega,h2⟩
     · rw [if_neg h,k2 y]
       constructor
       · rintro⟨h1,h2⟩
         exact⟨by omega,h2⟩
       · rintro⟨h1,h2⟩
         by_cases hj':y.1=j
         · rw [hj',hz]at h2
           exact absurd (congrArg Prod.fst (Option.some.inj h2)) h
         · exact⟨by omega,h2⟩)
 subst e;rw [Q3,List.length_map,Nat.zero_add]at k1 k2;refine⟨K,xs,w5,w6,Ym (xs:=Xc 0 (r.map prD)) ?_ f,by omega,λy => ?_⟩
 · unfold Qq
   rw [show eOp ixD (ZF YS "ways" (Za 0)) (Za 4) (S10 p bs v1 (some (dd [] [])) (some (nD a)) v5 v6 v7 v8 v9)=some (.tup (r.map prD))from(Zk (y:=nD a) (UT p rfl) rfl).trans er]
 · rw [k2 y]
   unfold st;rw [hr];constructor
   · exact λz=>z.2
   · exact λz=>⟨(List.getElem?_eq_some_iff.mp (show r[y.1]? = _ from z)).1,z⟩
theorem ZiF(v1 v3 v4 v9:Option D)(s:Nat)(x:Pr)(b:List Nat)(K:List Kp)(xs:List D)(hl:K.length<=10000):∃xs',s2I (S10 p bs v1 v3 v4 (some (nD s)) (some (prD x)) (some (.str b)) (some (dd K xs)) v9)=some (.nx (S10 p bs v1 v3 v4 (some (nD s)) (some (prD x)) (some (.str b)) (some (dd (if x.1=b then ins K (s,x.2)else K) xs')) v9)):=by
 have et:xB (eOp eqD (eOp ixD (Za 6) (eC (.int 0))) (Za 7)) (S10 p bs v1 v3 v4 (some (nD s)) (some (prD x)) (some (.str b)) (some (dd K xs)) v9)=some (decide (x.1=b)):=ZX ((Zk (x:=.str x.1) (y:=.str b) ((Zk (x:=prD x) (y:=.int 0) rfl rfl).trans rfl) rfl).trans (Qt _ _))
 by_cases h:x.1=b
 · rw [decide_eq_true h]at et
   obtain⟨xs',e⟩:=ZfO (i:=8) (κ:=sK) (ε:=eC (.bl true)) (δ:=S10 p bs v1 v3 v4 (some (nD s)) (some (prD x)) (some (.str b)) (some (dd K xs)) v9) (s:=s) (p:=x.2) rfl rfl (ZhM _ _ _ _ _ _ s x) hl;rw [if_pos h];exact⟨xs',(Y7 et).trans e⟩
 · rw [decide_eq_false h]at et
   rw [if_neg h];exact⟨xs,(Ye et).trans rfl⟩
theorem ZiG(o:p.Ok){a s:Nat}(ha:a<p.W.length)(b:List Nat)(K0:List Kp)(xs0:List D)(hl:K0.length<=9000)(v1 v3 v6 v9:Option D):∃K xs w6,s2K (S10 p bs v1 v3 (some (nD a)) (some (nD s)) v6 (some (.str b)) (some (dd K0 xs0)) v9)=some (.nx (S10 p bs v1 v3 (some (nD a)) (some (nD s)) w6 (some (.str b)) (some (dd K xs)) v9))/\K.length<=K0.length+3/\∀y:Kp,y∈K ↔ y∈K0\/y.1=s/\∃t,st p.W a t=some (b,y.2):=by
 obtain⟨r,hr,er,rl,_⟩:=o.row ha;have n3:=o.n3
 obtain⟨δ',f,K,xs,w6,e,k1,k2⟩:=Y0 (γ:=Zo 6) (φ:=s2I) (λj δ=>∃K xs w6,δ=S10 p bs v1 v3 (some (nD a)) (some (nD s)) w6 (some (.str b)) (some (dd K xs)) v9/\K.length<=K0.length+j/\∀y:Kp,y∈K ↔ y∈K0\/y.1=s/\∃t,t<j/\r[t]? = some (b,y.2)) (r.map prD) 0 (S10 p bs v1 v3 (some (nD a)) (some (nD s)) v6 (some (.str b)) (some (dd K0 xs0)) v9) ⟨K0,xs0,v6,rfl,Nat.le_refl _,λy=>⟨.inl,λz=>z.elim id λz=>absurd z.2.choose_spec.1 (by omega)⟩⟩ (by
  rintro j x δ hx ⟨K,xs,w6,rfl,k1,k2⟩
  rw [List.getElem?_map]at hx;cases hz:r[j]? with
  |none=>rw [hz]at hx;cases hx
  |some z=>
   rw [hz]at hx;cases hx;rw [Nat.zero_add]at k1 k2 ⊢;have hj:=(List.getElem?_eq_some_iff.mp hz).1;obtain⟨xs',e⟩:=ZiF (p:=p) (bs:=bs) v1 v3 (some (nD a)) v9 s z b K xs (by omega);refine⟨S10 p bs v1 v3 (some (nD a)) (some (nD s)) (some (prD z)) (some (.str b)) (some (dd K xs)) v9,rfl,_,e,_,xs',_,rfl,?_,λy => ?_⟩
   · by_cases h:z.1=b
     · rw [if_pos h];have:=Zdw K (s,z.2);omega
     · rw [if_neg h];omega
   · by_cases h:z.1=b
     · rw [if_pos h,Zdv,k2 y]
       constructor
       · rintro((h1|⟨h1,t,h2,h3⟩)|rfl)
         · exact .inl h1
         · exact .inr ⟨h1,t,by omega,h3⟩
         · exact .inr ⟨rfl,j,by omega,by show r[j]? = some (b,z.2);rw [hz,<-h]⟩
       · rintro(h1|⟨h1,t,h2,h3⟩)
         · exact .inl (.inl h1)
         · by_cases ht:t=j
           · subst ht
             rw [hz]at h3;exact .inr (Prod.ext h1 (congrArg Prod.snd (Option.some.inj h3)).symm)
           · exact .inl (.inr ⟨h1,t,by omega,h3⟩)
     · rw [if_neg h,k2 y]
       constructor
       · rintro(h1|⟨h1,t,h2,h3⟩)
         · exact .inl h1
         · exact .inr ⟨h1,t,by omega,h3⟩
       · rintro(h1|⟨h1,t,h2,h3⟩)
         · exact .inl h1
         · by_cases ht:t=j
           · subst ht
             rw [hz]at h3;exact absurd (congrArg Prod.fst (Option.some.inj h3)) h
           · exact .inr ⟨h1,t,by omega,h3⟩)
 subst e;rw [List.length_map,Nat.zero_add]at k1 k2;refine⟨K,xs,w6,Ym (xs:=r.map prD) ?_ f,by omega,λy => ?_⟩
 · exact ZaH ((Zk (y:=nD a) (UT p rfl) rfl).trans er)
 · rw [k2 y]
   unfold st;rw [hr];constructor
   · rintro(h|⟨h1,t,h2,h3⟩)
     · exact .inl h
     · exact .inr ⟨h1,t,h3⟩
   · rintro(h|⟨h1,t,h3⟩)
     · exact .inl h
     · exact .inr ⟨h1,t,(List.getElem?_eq_some_iff.mp (show r[t]? = _ from h3)).1,h3⟩
theorem ZfP(o:p.Ok)(b:List Nat)(v1 v9:Option D):∀(E K0:List Kp)(xs0:List D)(v4 v5 v6:Option D),(∀x∈E,x.2<p.W.length)->K0.length+3*E.length<=9000->∃K xs w4 w5 w6,ZP (ZS 2 (ZG 5 (ZG 4 gsNil))) s2K ((E.map kk).map kD) (S10 p bs v1 none v4 v5 v6 (some (.str b)) (some (dd K0 xs0)) v9)=some (.nx (S10 p bs v1 none w4 w5 w6 (some (.str b)) (some (dd K xs)) v9))/\K.length<=K0.length+3*E.length/\∀y:Kp,y∈K ↔ y∈K0\/∃x∈E,y.1=x.1/\∃t,st p.W x.2 t=some (b,y.2)
 | [],K0,xs0,v4,v5,v6,_,_=>⟨K0,xs0,v4,v5,v6,rfl,Nat.le_refl _,λy=>⟨.inl,λz=>z.elim id λ⟨x,h,_⟩=>(nomatch h)⟩⟩
 |x::E,K0,xs0,v4,v5,v6,hE,hl=>by
  rw [List.length_cons]at hl;obtain⟨K1,xs1,w6,h1,h2,h3⟩:=ZiG (bs:=bs) o (s:=x.1) (hE x List.mem_cons_self) b K0 xs0 (by omega) v1 none v6 v9;obtain⟨K,xs,y4,y5,y6,i1,i2,i3⟩:=ZfP o b v1 v9 E K1 xs1 (some (nD x.2)) (some (nD x.1)) w6 (λy hy=>hE y (List.mem_cons_of_mem _ hy)) (by omega);refine⟨K,xs,y4,y5,y6,?_,by rw [List.length_cons];omega,λy => ?_⟩
  · rw [List.map_cons,List.map_cons]
    unfold ZP;have eg:ZS 2 (ZG 5 (ZG 4 gsNil)) (kD (kk x)) (S10 p bs v1 none v4 v5 v6 (some (.str b)) (some (dd K0 xs0)) v9)=some (S10 p bs v1 none (some (nD x.2)) (some (nD x.1)) v6 (some (.str b)) (some (dd K0 xs0)) v9):=rfl;rw [eg];dsimp only;rw [h1];exact i1
  · rw [i3 y,h3 y]
    constructor
    · rintro((z|⟨z1,z2⟩)|⟨x',z1,z2⟩)
      · exact .inl z
      · exact .inr ⟨x,List.mem_cons_self,z1,z2⟩
      · exact .inr ⟨x',List.mem_cons_of_mem _ z1,z2⟩
    · rintro(z|⟨x',z1,z2,z3⟩)
      · exact .inl (.inl z)
      · rcases List.mem_cons.mp z1 with rfl|z1
        · exact .inl (.inr ⟨z2,z3⟩)
        · exact .inr ⟨x',z1,z2,z3⟩
theorem ZiH(o:p.Ok)(b:List Nat){E:List Kp}(xE:List D)(hE:∀x∈E,x.2<p.W.length)(hl:E.length<=1000)(v1 v4 v5 v6 v8 v9:Option D):∃K xs w4 w5 w6,s2B (S10 p bs v1 (some (dd E xE)) v4 v5 v6 (some (.str b)) v8 v9)=some (.nx (S10 p bs v1 (some (dd K xs)) w4 w5 w6 (some (.str b)) none v9))/\K.length<=3*E.length/\∀y:Kp,y∈K ↔ ∃x∈E,y.1=x.1/\∃t,st p.W x.2 t=some (b,y.2):=by
 obtain⟨K,xs,w4,w5,w6,h1,h2,h3⟩:=ZfP (bs:=bs) o b v1 v9 E [] [] v4 v5 v6 hE (by show 0+_<=_;omega);refine⟨K,xs,w4,w5,w6,?_,by simpa using h2,λy=>by rw [h3 y];simp⟩;have t8:Zg 8 (eC (.dtt [] [])) (S10 p bs v1 (some (dd E xE)) v4 v5 v6 (some (.str b)) v8 v9)=some (.nx (S10 p bs v1 (some (dd E xE)) v4 v5 v6 (some (.str b)) (some (dd [] [])) v9)):=Zz rfl
 have tT:s2T (S10 p bs v1 (some (dd E xE)) v4 v5 v6 (some (.str b)) (some (dd [] [])) v9)=some (.nx (S10 p bs v1 (some (dd E xE)) w4 w5 w6 (some (.str b)) (some (dd K xs)) v9)):=by
  unfold s2T Qr;have e3:Za 3 (S10 p bs v1 (some (dd E xE)) v4 v5 v6 (some (.str b)) (some (dd [] [])) v9)=some (.dtt (E.map kk) xE):=rfl;rw [e3];dsimp only;rw [show(S10 p bs v1 (some (dd E xE)) v4 v5 v6 (some (.str b)) (some (dd [] [])) v9).set 3 none=S10 p bs v1 none v4 v5 v6 (some (.str b)) (some (dd [] [])) v9 from rfl,h1];rfl
 unfold s2B;rw [Zp t8,Zp tT];rfl
end
end K44
namespace K44
open DL L2
theorem Zdy{j:Nat}(h:j<=6):3 ^ j<=729:=by
 have:j=0\/j=1\/j=2\/j=3\/j=4\/j=5\/j=6:=by omega
 rcases this with rfl|rfl|rfl|rfl|rfl|rfl|rfl<;>decide
theorem ZgY:∀n,n<=3->∀s,s<n->(List.range n).filter (λx=>decide (x=s))=[s]:=by decide
section
variable{p:Pl}{bs:List (List Nat)}
def Spl(p:Pl)(a:Nat)(bs:List (List Nat))(K:List Kp):Prop:=∀y:Kp,y∈K ↔ ∃ss,Pth p.W a (y.1::ss) bs y.2
theorem ZiI{a:Nat}{b0:List Nat}{K:List Kp}(h:∀y:Kp,y∈K ↔ st p.W a y.1=some (b0,y.2)):Spl p a [b0] K:=λy=>by
 rw [h y];constructor
 · exact λz=>⟨[],.cons z (.nil _)⟩
 · rintro⟨ss,z⟩
   cases z with
   |cons z1 z2=>
    cases z2;exact z1
theorem ZgZ{a:Nat}{b:List Nat}{E K:List Kp}(hn:bs≠[])(hE:Spl p a bs E)(h:∀y:Kp,y∈K ↔ ∃x∈E,y.1=x.1/\∃t,st p.W x.2 t=some (b,y.2)):Spl p a (bs++[b]) K:=λy=>by
 rw [h y];constructor
 · rintro⟨x,h1,h2,t,h3⟩
   obtain⟨ss,P⟩:=(hE x).mp h1;rw [h2];exact⟨ss++[t],Ze6 P h3⟩
 · rintro⟨ss,P⟩
   obtain⟨ss0,t,e,e1,e2,e3⟩:=Zdx bs a _ P;cases ss0 with
   |nil=>
    have:=Zbo e2;exact absurd (List.eq_nil_of_length_eq_zero this) hn
   |cons s0 ss0=>
    have:y.1=s0:=(List.cons.inj e1).1;subst this;exact⟨(y.1,e),(hE _).mpr ⟨ss0,e2⟩,rfl,t,e3⟩
theorem Zj7(K:List Kp)(xs:List D)(hl:K.length<=1000)(v1 v4 v5 v6 v7 v8 v9:Option D):s3C (S10 p bs v1 (some (dd K xs)) v4 v5 v6 v7 v8 v9)=some (.nx (S10 p bs v1 none v4 v5 v6 v7 v8 (some (AD (K.map (·.1)))))):=by
 unfold s3C Qs;have e3:Za 3 (S10 p bs v1 (some (dd K xs)) v4 v5 v6 v7 v8 v9)=some (.dtt (K.map kk) xs):=rfl;rw [e3];dsimp only;have hc:ZZ (ZS 2 (ZG 0 (ZG 1 gsNil))) (λ_=>some true) (Za 0) [none,none] (K.map λx=>kD (kk x))=some (K.map λx=>nD x.1):=XZ (λx:Kp=>kD (kk x)) (λx:Kp=>nD x.1) K λx _=>⟨[some (nD x.1),some (nD x.2)],rfl,rfl⟩
 rw [show YY 2 ((S10 p bs v1 (some (dd K xs)) v4 v5 v6 v7 v8 v9).set 3 none) []=[none,none]from rfl,List.map_map,show(kD∘kk)=λx=>kD (kk x)from rfl,hc];dsimp only;rw [if_pos (by rw [List.length_map,PySem.sizeLine_eq];omega),AD,List.map_map];rfl
theorem Zcw(o:p.Ok){a s e:Nat}{ss:List Nat}(ha:a<p.W.length)(hl:bs.length=p.ahead+1)(P:Pth p.W a (s::ss) bs e):Je [p.obj,AD [a],.lst (bs.map D.str)]=some (AD [s]):=by
 have n3:=o.n3;have a5:=o.a5
 obtain⟨b0,bs',rfl⟩:∃b0 bs',bs=b0::bs':=by
  cases bs with
  |nil=>simp at hl
  |cons b0 bs'=>exact⟨b0,bs',rfl⟩
 rw [List.length_cons]at hl;have t3:Zg 3 (eC (.dtt [] [])) (S10 p (b0::bs') (some (AD [a])) none none none none none none none)=some (.nx (S10 p (b0::bs') (some (AD [a])) (some (dd [] [])) none none none none none none)):=Zz rfl;obtain⟨K1,xs1,w5,w6,f1,k1,k2⟩:=ZiE o (bs:=b0::bs') (b0:=b0) rfl ha (some (AD [a])) none none none none none;have t1:ZB (ZJ (Za 1)) (Zo 4) s1E (S10 p (b0::bs') (some (AD [a])) (some (dd [] [])) none none none none none none)=some (.nx (S10 p (b0::bs') (some (AD [a])) (some (dd K1 xs1)) (some (nD a)) w5 w6 none none none)):=Ym (xs:=[nD a]) (XF rfl) (Ze5 rfl f1)
 obtain⟨δ',f2,K,xs,y4,y5,y6,y7,y8,e2,k3,k4⟩:=Y0 (γ:=Zo 7) (φ:=s2B) (λj δ=>∃K xs w4 w5 w6 w7 w8,δ=S10 p (b0::bs') (some (AD [a])) (some (dd K xs)) w4 w5 w6 w7 w8 none/\K.length<=3 ^ (j+1)/\Spl p a (b0::bs'.take j) K) (bs'.map D.str) 0 (S10 p (b0::bs') (some (AD [a])) (some (dd K1 xs1)) (some (nD a)) w5 w6 none none none) ⟨K1,xs1,_,_,_,_,_,rfl,by simpa using k1,ZiI k2⟩ (by
  rintro j x δ hx ⟨K,xs,w4,w5,w6,w7,w8,rfl,k3,k4⟩
  have hj:j<bs'.length:=by
   have:=(List.getElem?_eq_some_iff.mp hx).1
   rwa [List.length_map]at this
  rw [List.getElem?_map,List.getElem?_eq_getElem hj]at hx;cases hx;rw [Nat.zero_add]at k3 k4 ⊢;have h3:=Zdy (j:=j+1) (by omega)
  obtain⟨K',xs',z4,z5,z6,g1,g2,g3⟩:=ZiH (bs:=b0::bs') o bs'[j] xs (E:=K) (λx hx=>by
   obtain⟨ss,P⟩:=(k4 x).mp hx;exact ZgX o ha P) (by omega) (some (AD [a])) w4 w5 w6 w8 none
  refine⟨_,rfl,_,g1,K',xs',z4,z5,z6,_,_,rfl,by rw [Nat.pow_succ];omega,?_⟩;rw [List.take_add_one,List.getElem?_eq_getElem hj];exact ZgZ (bs:=b0::bs'.take j) (by simp) k4 g3)
 subst e2;rw [List.length_map,Nat.zero_add,List.take_of_length_le (Nat.le_refl _)]at k4;rw [List.length_map,Nat.zero_add]at k3;have h3:=Zdy (j:=bs'.length+1) (by omega)
 have t2:ZB (ZJ (eSl (Za 2) (xP (eC (.int 1))) xNoP)) (Zo 7) s2B (S10 p (b0::bs') (some (AD [a])) (some (dd K1 xs1)) (some (nD a)) w5 w6 none none none)=some (.nx (S10 p (b0::bs') (some (AD [a])) (some (dd K xs)) y4 y5 y6 y7 y8 none)):=by
  refine Ym (xs:=bs'.map D.str) (XF ((ZcL (xs:=(b0::bs').map D.str) (l:=some 1) (u:=none) rfl rfl rfl).trans ?_)) f2;rw [show cutL ((b0::bs').map D.str) (some 1) none=((b0::bs').map D.str).drop 1 from cut_from _ 1];rfl
 have tC:=Zj7 (p:=p) (bs:=b0::bs') K xs (by omega) (some (AD [a])) y4 y5 y6 y7 y8 none;have hc:ZZ (Zo 0) (xB (eOp (inD false) (Za 0) (Za 1))) (Za 0) [none,some (AD (K.map (·.1)))] ((List.range p.n).map nD)=some (((List.range p.n).filter λx=>decide (x∈K.map (·.1))).map nD):=Zal nD nD _ _ λx _=>⟨[some (nD x),some (AD (K.map (·.1)))],rfl,ZX ((Zk (x:=nD x) (y:=AD (K.map (·.1))) rfl rfl).trans (ZkG _ _)),rfl⟩
 have hsn:s<p.n:=by
  cases P with
  |cons h1 h2=>exact(UU o h1).choose_spec.2.2.2.2.2.1
 have hm:∀x,x∈K.map (·.1) ↔ x=s:=λx=>by
  constructor
  · intro z
    obtain⟨y,hy,rfl⟩:=List.mem_map.mp z;obtain⟨ss',P'⟩:=(k4 y).mp hy;exact o.dec a y.1 s y.2 e ss' ss _ ha (by rw [List.length_cons,hl]) P' P
  · rintro rfl
    exact List.mem_map.mpr ⟨(x,e),(k4 _).mpr ⟨ss,P⟩,rfl⟩
 have hfl:((List.range p.n).filter λx=>decide (x∈K.map (·.1)))=[s]:=by
  rw [<-ZgY p.n n3 s hsn];refine List.filter_congr λx _ => ?_
  exact decide_eq_decide.mpr (hm x)
 rw [hfl]at hc;refine Yz (δ:=S10 p (b0::bs') (some (AD [a])) none none none none none none none) rfl ?_;rw [Zcv,Zp t3,Zp t1,Zp t2,Zp tC];exact Yx (XU (Xg (m:=p.n) (Zh (ZaB p o rfl) nil_of) (by omega)) rfl hc (by show 1<=_;decide))
noncomputable def rS:DL.Env->Option Out:=(Zg 6 (Zy 3 Je [] (Zb (Za 0) (Zb (Zv (Zb (Za 3) eNil)) (Zb (eSl (Za 2) (xP (Za 5)) (xP (eOp addX (eOp addX (Za 5) (ZF Y1 "ahead" (Za 0))) (eC (.int 1))))) eNil)))))
noncomputable def rI:DL.Env->Option Out:=(sIf (xB (eOp eqD (eCB lenD (Zb (Za 6) eNil)) (eC (.int 0)))) sNever sNext)
noncomputable def rA:DL.Env->Option Out:=(ZW 4 (eOp ixD (Za 6) (eC (.int 0))))
noncomputable def rP:DL.Env->Option Out:=(Zg 3 (eOp ixD (eOp ixD (eOp ixD (ZF YS "ways" (Za 0)) (Za 3)) (eOp ixD (Za 6) (eC (.int 0)))) (eC (.int 1))))
noncomputable def rB:DL.Env->Option Out:=Zd rS (Zd rI (Zd rA rP))
noncomputable def rT:DL.Env->Option Out:=(sIf (YJ (xB (eBM startsD (Za 1) (Zb (ZF YR "lead" (Za 0)) eNil)))) sNever sNext)
theorem Zg0:f_QT=Zd rT (Zd (Zg 2 (Zy 2 Qx [] (Zb (Za 0) (Zb (Za 1) eNil)))) (Zd (Zg 3 (ZF XV "first" (Za 0))) (Zd (Zg 4 (Zv eNil)) (Zd (ZB (ZH (Zb (eOp subD (eCB lenD (Zb (Za 2) eNil)) (ZF Y1 "ahead" (Za 0))) eNil)) (Zo 5) rB) (ZA (Za 4)))))):=rfl
abbrev R7(p:Pl)(row:List Nat)(bs:List (List Nat))(v3 v4 v5 v6:Option D):DL.Env:=[some p.obj,some (.str row),some (.lst (bs.map D.str)),v3,v4,v5,v6]
theorem Zj8(o:p.Ok)(row:List Nat){a e j:Nat}{s:Nat}{ss acc:List Nat}(ha:a<p.W.length)(hj:j+p.ahead+1<=bs.length)(hb:bs.length<=1000)(P:Pth p.W a (s::ss) (bs.drop j) e)(hacc:acc.length<=1000)(v6:Option D):∃a' w6,a'<p.W.length/\Pth p.W a' ss (bs.drop (j+1)) e/\rB (R7 p row bs (some (nD a)) (some (AD acc)) (some (nD j)) v6)=some (.nx (R7 p row bs (some (nD a')) (some (AD (acc++[s]))) (some (nD j)) w6)):=by
 have a5:=o.a5;obtain⟨e1,P1⟩:=Ze7 P (p.ahead+1);rw [List.take_succ_cons]at P1;have hsp:=Zcw o ha (by rw [List.length_take,List.length_drop];omega) P1;cases hd:bs.drop j with
 |nil=>
  rw [hd]at P;cases P
 |cons b bs1=>
  rw [hd]at P;have hd1:bs.drop (j+1)=bs1:=by rw [<-List.drop_drop,hd];rfl
  cases P with
  |cons h1 h2=>
   rename_i a';obtain⟨r,_,e3,_,e4,_,_,l1,_⟩:=UU o h1
   have eS:eSl (Za 2) (xP (Za 5)) (xP (eOp addX (eOp addX (Za 5) (ZF Y1 "ahead" (Za 0))) (eC (.int 1)))) (R7 p row bs (some (nD a)) (some (AD acc)) (some (nD j)) v6)=some (.lst (((bs.drop j).take (p.ahead+1)).map D.str)):=by
    refine(ZcL (xs:=bs.map D.str) (l:=some (j:Int)) (u:=some ((j+p.ahead+1:Nat):Int)) rfl (QG rfl) (QG ((Zk (y:=.int 1) ((Zk (x:=nD j) rfl (Jw p rfl)).trans (add_int _ _)) rfl).trans ((add_int _ _).trans (by rw [Int.natCast_add,Int.natCast_add];rfl))))).trans ?_;rw [Zbp,Zdt bs (by omega) hj,show j+p.ahead+1-j=p.ahead+1 by omega]
   have tS:rS (R7 p row bs (some (nD a)) (some (AD acc)) (some (nD j)) v6)=some (.nx (R7 p row bs (some (nD a)) (some (AD acc)) (some (nD j)) (some (AD [s])))):=Zz ((YC (n:=3) (Zh (x:=p.obj) rfl (Zh (x:=AD [a]) (Yy (Zh (x:=nD a) rfl nil_of) (by show 1<=1000;decide)) (Zh eS nil_of))) rfl).trans hsp)
   have tI:rI (R7 p row bs (some (nD a)) (some (AD acc)) (some (nD j)) (some (AD [s])))=some (.nx (R7 p row bs (some (nD a)) (some (AD acc)) (some (nD j)) (some (AD [s])))):=by
    refine(Ye (ZX ((Zk (x:=.int 1) (y:=.int 0) ((ZN (Zh (x:=AD [s]) rfl nil_of)).trans rfl) rfl).trans (XT _ _)))).trans rfl
   have e0:∀δ,Za 6 δ=some (AD [s])->eOp ixD (Za 6) (eC (.int 0)) δ=some (nD s):=λδ h=>(Zk (y:=nD 0) h rfl).trans (Um rfl)
   have tA:rA (R7 p row bs (some (nD a)) (some (AD acc)) (some (nD j)) (some (AD [s])))=some (.nx (R7 p row bs (some (nD a)) (some (AD (acc++[s]))) (some (nD j)) (some (AD [s])))):=by
    refine(XE (xs:=acc.map nD) rfl (e0 _ rfl) (by rw [List.length_map];omega)).trans ?_;rw [show AD (acc++[s]) = .lst (acc.map nD++[nD s]) by rw [AD,List.map_append];rfl];rfl
   have tP:rP (R7 p row bs (some (nD a)) (some (AD (acc++[s]))) (some (nD j)) (some (AD [s])))=some (.nx (R7 p row bs (some (nD a')) (some (AD (acc++[s]))) (some (nD j)) (some (AD [s])))):=Zz ((Zk (x:=prD (b,a')) (y:=.int 1) ((Zk ((Zk (y:=nD a) (UT p rfl) rfl).trans e3) (e0 _ rfl)).trans e4) rfl).trans rfl);refine⟨a',some (AD [s]),l1,by rw [hd1];exact h2,?_⟩;unfold rB;rw [Zp tS,Zp tI,Zp tA]
   exact tP
theorem pfx(a b:List Nat):a.isPrefixOf (a++b)=true:=by
 rw [List.isPrefixOf_iff_prefix];exact List.prefix_append _ _
theorem Zg1(o:p.Ok){ss:List Nat}{e:Nat}(hl:ss.length<=100)(P:Pth p.W p.first (ss++List.replicate p.ahead 0) bs e):Qy [p.obj,.str (p.lead++bs.flatten)]=some (AD ss):=by
 have a5:=o.a5;have hlen:=Zbo P;rw [List.length_append,List.length_replicate]at hlen;have hbq:∀b∈bs,b.length=p.q:=λb hb=>(ZfL o P b hb).1
 have hbb:=Zeg p o hbq (by omega) (by omega);have hpf:=pfx p.lead bs.flatten;generalize p.lead++bs.flatten=row at hbb hpf
 have tT:rT [some p.obj,some (.str row),none,none,none,none,none]=some (.nx [some p.obj,some (.str row),none,none,none,none,none]):=by
  refine(Ye (UN (b:=true) (ZX ((Q8 (s:=row) rfl (Zh (ZaJ p rfl) nil_of)).trans ?_)))).trans rfl;show some (D.bl (p.lead.isPrefixOf row))=_;rw [hpf]
 have t2:Zg 2 (Zy 2 Qx [] (Zb (Za 0) (Zb (Za 1) eNil))) [some p.obj,some (.str row),none,none,none,none,none]=some (.nx (R7 p row bs none none none none)):=Zz ((YC (n:=2) (Zh (x:=p.obj) rfl (Zh (x:=.str row) rfl nil_of)) rfl).trans hbb);have t3:Zg 3 (ZF XV "first" (Za 0)) (R7 p row bs none none none none)=some (.nx (R7 p row bs (some (nD p.first)) none none none)):=Zz (Za7 p rfl)
 have t4:Zg 4 (Zv eNil) (R7 p row bs (some (nD p.first)) none none none)=some (.nx (R7 p row bs (some (nD p.first)) (some (AD [])) none none)):=Zz (Yy nil_of (by show 0<=1000;decide))
 obtain⟨δ',f,a,w5,w6,e2,_,_⟩:=Y0 (γ:=Zo 5) (φ:=rB) (λj δ=>∃a w5 w6,δ=R7 p row bs (some (nD a)) (some (AD (ss.take j))) w5 w6/\a<p.W.length/\Pth p.W a ((ss++List.replicate p.ahead 0).drop j) (bs.drop j) e) ((List.range ss.length).map nD) 0 (R7 p row bs (some (nD p.first)) (some (AD [])) none none) ⟨p.first,none,none,rfl,o.f,by rw [List.drop_zero,List.drop_zero];exact P⟩ (by
  rintro j x δ hx ⟨a,w5,w6,rfl,ha,Pj⟩
  have hj:j<ss.length:=by
   have:=(List.getElem?_eq_some_iff.mp hx).1
   rwa [List.length_map,List.length_range]at this
  rw [List.getElem?_map,List.getElem?_range hj]at hx;cases hx;rw [Nat.zero_add]at Pj ⊢;have hj2:j<(ss++List.replicate p.ahead 0).length:=by rw [List.length_append];omega
  have hg:(ss++List.replicate p.ahead 0)[j]=ss[j]:=List.getElem_append_left hj;rw [List.drop_eq_getElem_cons hj2,hg]at Pj;obtain⟨a',y6,l1,P1,hB⟩:=Zj8 o row ha (by omega) (by omega) Pj (acc:=ss.take j) (by rw [List.length_take];omega) w6;refine⟨_,rfl,_,hB,a',some (nD j),y6,?_,l1,P1⟩;rw [List.take_add_one,List.getElem?_eq_getElem hj];rfl)
 subst e2;rw [List.length_map,List.length_range,Nat.zero_add,List.take_of_length_le (Nat.le_refl _)]at f;have hI:ZH (Zb (eOp subD (eCB lenD (Zb (Za 2) eNil)) (ZF Y1 "ahead" (Za 0))) eNil) (R7 p row bs (some (nD p.first)) (some (AD [])) none none)=some ((List.range ss.length).map nD):=Xg (m:=ss.length) (Zh ((Zk (x:=nD bs.length) ((ZN (Zh (x:=.lst (bs.map D.str)) rfl nil_of)).trans (len_lst.trans (by rw [List.length_map]))) (Jw p rfl)).trans ((ZcG _ _).trans (by rw [hlen,Int.natCast_add,Int.add_sub_cancel]))) nil_of) (by omega)
 refine Yz rfl ?_;rw [Zg0];refine(Zp tT).trans ?_;rw [Zp t2,Zp t3,Zp t4,Zp (Ym hI f)];exact Yx rfl
end
end K44
namespace K44
open DL L2
theorem Ze8{ε:DL.Env->Option D}{δ:DL.Env}{w:List Nat}(h:ε δ=some (.str w)):ZJ ε δ=some (w.map λc=>D.str [c]):=by
 unfold ZJ;rw [h]
theorem Zg2{i j k l:Nat}{ε:DL.Env->Option D}{δ:DL.Env}{x y z w:D}(h:ε δ=some (.tup [x,y,z,w])):XD (ZS 4 (ZG i (ZG j (ZG k (ZG l gsNil))))) ε δ=some (.nx ((((δ.set i (some x)).set j (some y)).set k (some z)).set l (some w))):=by
 unfold XD;rw [h];rfl
theorem ZiJ{mk:List Nat}(nd:mk.Nodup){c:Nat}(h:c∈mk):indexD mk [.str [c]]=some (nD (mi mk c))/\mi mk c<mk.length:=by
 obtain⟨i,a,b,hi⟩:=Zd9 h
 have e:mi mk c=i:=by
  have:=UQ nd hi
  rwa [List.getD_eq_getElem?_getD,b]at this
 refine⟨?_,by omega⟩;show(if 0<=Xv c mk then some (D.int (Xv c mk))else none)=_;rw [a,if_pos (by omega),e]
section
variable{mk:List Nat}{gw:Gw}
noncomputable def wA:DL.Env->Option Out:=(Zg 2 (eOp ixD (eOp ixD (eOp ixD (Za 0) (eC (.int 1))) (Za 2)) (eBM indexD (eOp ixD (Za 0) (eC (.int 0))) (Zb (Za 3) eNil))))
noncomputable def wI:DL.Env->Option Out:=(sIf (xB (UF (Za 2))) (ZA (eC (.bl false))) sNext)
theorem Ze9:f_QP=Zd (Zg 2 (eC (.int 0))) (Zd (ZB (ZJ (Za 1)) (Zo 3) (Zd wA wI)) (ZA (eC (.bl true)))):=rfl
theorem Za8(g:GOk mk gw)(x:Int)(v1:Option D){e:Nat}:∀(w:List Nat)(r:Nat)(v3:Option D),wk mk gw r w=some e->r<gw.length->(∀c∈w,c∈mk)->∃w2 w3,ZP (Zo 3) (Zd wA wI) (w.map λc=>D.str [c]) [some (gD mk gw x),v1,some (nD r),v3]=some (.nx [some (gD mk gw x),v1,w2,w3])
 | [],r,v3,_,_,_=>⟨_,_,rfl⟩
 |c::w,r,v3,h,hr,hc=>by
  rw [Jr]at h;cases ht:gat gw r (mi mk c)with
  |none=>rw [ht]at h;cases h
  |some t=>
   rw [ht]at h;have h:wk mk gw t w=some e:=h;obtain⟨ei,il⟩:=ZiJ g.nd (hc c List.mem_cons_self);obtain⟨w2,w3,ih⟩:=Za8 g x v1 w t (some (.str [c])) h (g.lt _ _ _ ht) λy hy=>hc y (List.mem_cons_of_mem _ hy)
   have tA:wA [some (gD mk gw x),v1,some (nD r),some (.str [c])]=some (.nx [some (gD mk gw x),v1,some (nD t),some (.str [c])]):=by
    refine Zz ((Zk (x:=grD (gw.getD r [])) (y:=nD (mi mk c)) ((Zk (x:=gwD gw) (y:=nD r) (Ju rfl) rfl).trans (Js g hr).1) ((Q8 (s:=mk) (ZfV rfl) (Zh (x:=.str [c]) rfl nil_of)).trans ei)).trans ((ZcI g hr il).trans ?_));rw [ht];rfl
   have tI:wI [some (gD mk gw x),v1,some (nD t),some (.str [c])]=some (.nx [some (gD mk gw x),v1,some (nD t),some (.str [c])]):=(Ye (by rfl)).trans rfl;refine⟨w2,w3,?_⟩;rw [List.map_cons];unfold ZP;have eg:Zo 3 (D.str [c]) [some (gD mk gw x),v1,some (nD r),v3]=some [some (gD mk gw x),v1,some (nD r),some (.str [c])]:=rfl;rw [eg];dsimp only;rw [Zp tA,tI];exact ih
theorem Zfa(g:GOk mk gw)(x:Int){w:List Nat}{e:Nat}(h:wk mk gw 0 w=some e)(hc:∀c∈w,c∈mk):Jo [gD mk gw x,.str w]=some (.bl true):=by
 obtain⟨w2,w3,f⟩:=Za8 g x (some (.str w)) w 0 none h g.r1 hc;have t2:Zg 2 (eC (.int 0)) [some (gD mk gw x),some (.str w),none,none]=some (.nx [some (gD mk gw x),some (.str w),some (nD 0),none]):=Zz rfl;refine Yz rfl ?_;rw [Ze9];refine(Zp t2).trans ?_;rw [Zp (Ym (Ze8 rfl) f)];exact Yx rfl
noncomputable def kT:DL.Env->Option Bool:=(xOr (YJ (xB (Xz Jd (Za 4)))) (xOr (xB (eOp neD (Za 4) (Za 2))) (YJ (xB (Zy 2 Jo [] (Zb (Za 0) (Zb (Za 3) eNil)))))))
noncomputable def kB:DL.Env->Option Out:=(sIf (xOr (YJ (xB (Xz Jc (Za 5)))) (xB (Xz Jb (Za 5)))) (ZA (eC (.bl false))) sNext)
theorem Zg3:f_QQ=Zd (Zg 3 (Zy 2 Qv [] (Zb (Za 1) (Zb (eCB Vo (Zb (Za 2) eNil)) eNil)))) (Zd (Zg 4 (Zy 2 Qy [] (Zb (Za 1) (Zb (Za 3) eNil)))) (Zd (sIf kT (ZA (eC (.bl false))) sNext) (Zd (ZB (ZJ (Za 4)) (Zo 5) kB) (ZA (eC (.bl true)))))):=rfl
theorem Zj9(ss:List Nat):PySem.SeqAt.shaped (toP (AD ss))=true:=Jt (k:=1) (QC (Zin λx=>ZfD 0 _)) (by decide)
structure Wk(mk:List Nat)(gw:Gw)(p:Pl):Prop where
 g:GOk mk gw
 ok:∃r0,wk mk gw 0 p.lead=some r0/\(∀c∈p.lead,c∈mk)/\∀ss bs e,Pth p.W p.first ss bs e->∃r1,wk mk gw r0 bs.flatten=some r1/\∀c∈bs.flatten,c∈mk
theorem Zg4{p:Pl}(o:p.Ok)(w:Wk mk gw p)(x:Int){ss:List Nat}(hs:∀s∈ss,s<p.n)(hl:ss.length<=100):Uo [gD mk gw x,p.obj,AD ss]=some (.bl true):=by
 have n1:=o.n1
 obtain⟨bs,e,P⟩:=ZfK o (ss++List.replicate p.ahead 0) p.first (λs hx=>by
  rcases List.mem_append.mp hx with z|z
  · exact hs s z
  · rw [List.eq_of_mem_replicate z];exact n1) o.f
 have hw:=Zcu p o hs hl P;have hr:=Zg1 o hl P;obtain⟨r0,q1,q2,q3⟩:=w.ok;obtain⟨r1,q4,q5⟩:=q3 _ _ _ P
 have hk:=Zfa w.g x (w:=p.lead++bs.flatten) (e:=r1) (by rw [QA,q1];exact q4) λc hc=>by
  rcases List.mem_append.mp hc with z|z
  · exact q2 c z
  · exact q5 c z
 generalize p.lead++bs.flatten=row at hw hr hk;have t3:Zg 3 (Zy 2 Qv [] (Zb (Za 1) (Zb (eCB Vo (Zb (Za 2) eNil)) eNil))) [some (gD mk gw x),some p.obj,some (AD ss),none,none,none]=some (.nx [some (gD mk gw x),some p.obj,some (AD ss),some (.str row),none,none]):=Zz ((YC (n:=2) (Zh (x:=p.obj) rfl (Zh (x:=AD ss) ((ZN (Zh (x:=AD ss) rfl nil_of)).trans rfl) nil_of)) rfl).trans hw)
 have t4:Zg 4 (Zy 2 Qy [] (Zb (Za 1) (Zb (Za 3) eNil))) [some (gD mk gw x),some p.obj,some (AD ss),some (.str row),none,none]=some (.nx [some (gD mk gw x),some p.obj,some (AD ss),some (.str row),some (AD ss),none]):=Zz ((YC (n:=2) (Zh (x:=p.obj) rfl (Zh (x:=.str row) rfl nil_of)) rfl).trans hr);have eT:kT [some (gD mk gw x),some p.obj,some (AD ss),some (.str row),some (AD ss),none]=some false:=Qu (UN (b:=true) (ZX (ZcF (d:=AD ss) rfl rfl))) (Qu (ZX ((Zk (x:=AD ss) (y:=AD ss) rfl rfl).trans (ZeX rfl (Zj9 ss)))) (UN (b:=true) (ZX ((YC (n:=2) (Zh (x:=gD mk gw x) rfl (Zh (x:=.str row) rfl nil_of)) rfl).trans hk))))
 have tT:sIf kT (ZA (eC (.bl false))) sNext [some (gD mk gw x),some p.obj,some (AD ss),some (.str row),some (AD ss),none]=some (.nx [some (gD mk gw x),some p.obj,some (AD ss),some (.str row),some (AD ss),none]):=(Ye eT).trans rfl
 obtain⟨δ',f,w5,rfl⟩:=Q7 (γ:=Zo 5) (φ:=kB) (λδ=>∃w5,δ=[some (gD mk gw x),some p.obj,some (AD ss),some (.str row),some (AD ss),w5]) (ss.map nD) [some (gD mk gw x),some p.obj,some (AD ss),some (.str row),some (AD ss),none] ⟨none,rfl⟩ (by
  rintro y hy δ ⟨w5,rfl⟩
  obtain⟨s,_,rfl⟩:=List.mem_map.mp hy;refine⟨[some (gD mk gw x),some p.obj,some (AD ss),some (.str row),some (AD ss),some (nD s)],rfl,_,(Ye (Qu (UN (b:=true) (ZX (ZcF (d:=nD s) rfl rfl))) (ZX (ZcF (d:=nD s) rfl rfl)))).trans rfl,_,rfl⟩)
 refine Yz rfl ?_;rw [Zg3];refine(Zp t3).trans ?_;rw [Zp t4,Zp tT,Zp (Ym (XF rfl) f)];exact Yx rfl
end
section
variable{mk:List Nat}{gw:Gw}{base:List Nat}{rows:List (List Pr)}{n dp sp q:Nat}{cs:List Int}
theorem plc(h:1<=sp){a m:Nat}(ha:a<m*sp):a / sp<m/\a % sp<sp/\a=a / sp*sp+a % sp:=⟨by rw [Nat.div_lt_iff_lt_mul h];exact ha,Nat.mod_lt _ h,by rw [Nat.mul_comm];exact(Nat.div_add_mod a sp).symm⟩
theorem ZhN{a:Nat}(h:1<=sp)(ha:a<base.length*sp):(dW base rows cs n dp sp base.length)[a]? = some (Yu base rows cs n dp sp (a / sp) (a % sp))/\(dHm base sp base.length)[a]? = some (base.getD (a / sp) 0):=by
 obtain⟨h1,h2,h3⟩:=plc h ha;have e1:=Jv (Yu base rows cs n dp sp) sp base.length (a / sp) (a % sp) h1 h2;have e2:=Jv (λi _=>base.getD i 0) sp base.length (a / sp) (a % sp) h1 h2;rw [<-h3]at e1 e2;exact⟨e1,e2⟩
theorem ZfQ(L:Late mk gw base q rows n dp sp){i k s:Nat}(hi:i<base.length)(hk:k<sp):(Xh base rows cs n dp sp i k s).2<base.length*sp/\BOk mk gw (base.getD i 0) q ((Xh base rows cs n dp sp i k s).1,base.getD ((Xh base rows cs n dp sp i k s).2 / sp) 0):=by
 obtain⟨i',k',h1,h2,h3,h4,h5⟩:=QF (cs:=cs) L.hb L.hc L.dl (s:=s) hi hk;have h6:(i'+1)*sp<=base.length*sp:=Nat.mul_le_mul_right sp h1;rw [Nat.succ_mul]at h6;obtain⟨_,_,c3,c4⟩:=QD L.hb L.hc L.dl hi (Ut L.dl cs (L:=i*sp+k) (s:=s) hk);refine⟨by omega,?_⟩
 have hd:(Xh base rows cs n dp sp i k s).2 / sp=i':=by
  rw [h3,Nat.mul_comm,Nat.mul_add_div L.dl.s1,Nat.div_eq_of_lt h2,Nat.add_zero]
 rw [hd,h4,(ZfG c4).2];exact c3
theorem Zg5(L:Late mk gw base q rows n dp sp)(lead:List Nat)(hl:lead.length<=4){f a:Nat}(hf:f<base.length*sp)(ha:dp<=a)(ha5:a<=5):Pl.Ok ⟨lead,f,a,dHm base sp base.length,dW base rows cs n dp sp base.length,n,q⟩:=by
 have s1:=L.dl.s1;have s8:=L.dl.s8;have b4:=L.hb.l4;have hW:=ZfI base rows cs n dp sp base.length;have hm:base.length*sp<=4*8:=Nat.mul_le_mul b4 s8;refine⟨L.dl.n1,L.dl.n3,by show List.length _<=_;rw [hW];omega,by show f<List.length _;rw [hW];exact hf,λr hr => ?_,L.hc.q1,L.hc.q4,ha5,by show lead.length<=10;omega,λx s s' e e' ss ss' bs hx hb p1 p2 => ?_⟩
 · obtain⟨i,hi,hr⟩:=List.mem_flatMap.mp (show r∈(List.range base.length).flatMap _ from hr)
   obtain⟨k,hk,rfl⟩:=List.mem_map.mp hr;have hi:=List.mem_range.mp hi;have hk:=List.mem_range.mp hk;refine⟨by show(Yu base rows cs n dp sp i k).length=n;unfold Yu;simp,λy hy => ?_⟩;unfold Yu at hy;obtain⟨s,_,rfl⟩:=List.mem_map.mp hy;obtain⟨w1,w2⟩:=ZfQ (cs:=cs) L (s:=s) hi hk;exact⟨by show _<List.length _;rw [hW];exact w1,w2.ln,λc hc=>L.g.cd c (w2.cd c hc)⟩
 · exact dec L.hb L.hc L.dl (by rw [<-hW];exact hx) (by rw [hb];show dp+1<=a+1;omega) p1 p2
theorem Zfb(L:Late mk gw base q rows n dp sp){a e:Nat}{ss:List Nat}{bs:List (List Nat)}(P:Pth (dW base rows cs n dp sp base.length) a ss bs e):a<base.length*sp->wk mk gw (base.getD (a / sp) 0) bs.flatten=some (base.getD (e / sp) 0)/\∀c∈bs.flatten,c∈mk:=by
 induction P with
 |nil a=>exact λ_=>⟨rfl,λc hc=>by cases hc⟩
 |cons h1 h2 ih=>
  rename_i a s a' e b ss bs;intro ha;obtain⟨p1,p2,p3⟩:=plc L.dl.s1 ha;rw [p3]at h1;obtain⟨_,e1⟩:=QE p1 p2 h1;obtain⟨w1,w2⟩:=ZfQ (cs:=cs) L (s:=s) p1 p2;rw [<-e1]at w1 w2;obtain⟨i1,i2⟩:=ih w1;rw [List.flatten_cons];refine⟨?_,λc hc => ?_⟩
  · rw [QA,w2.wk]
    exact i1
  · rcases List.mem_append.mp hc with z|z
    · exact w2.cd c z
    · exact i2 c z
end
noncomputable def m2:DL.Env->Option Out:=(XD (ZS 4 (ZG 2 (ZG 3 (ZG 4 (ZG 5 gsNil))))) (Zy 2 Jn [] (Zb (Za 0) (Zb (Za 1) eNil))))
noncomputable def m6:DL.Env->Option Out:=(Zg 6 (eOp modW (Zy 2 YD [] (Zb (Za 0) (Zb (eC (.int 0)) eNil))) (eCB lenD (Zb (Za 3) eNil))))
noncomputable def m7:DL.Env->Option Out:=(Zg 7 (eOp addX (Za 5) (eOp modW (eOp fdivW (Zy 2 YD [] (Zb (Za 0) (Zb (eC (.int 0)) eNil))) (eC (.int 16))) (eC (.int 3)))))
noncomputable def m8:DL.Env->Option Out:=(Zg 8 (VY "Table" 6 Jf [] (Zb (eOp Vq (Zy 2 Jl [] (Zb (eOp ixD (Za 2) (eC (.int 0))) (Zb (eOp ixD (Za 2) (eC (.int 1))) eNil))) (eOp ixD (Za 3) (Za 6))) (Zb (Za 6) (Zb (Za 7) (Zb (Za 3) (Zb (Za 4) eNil)))))))
noncomputable def m9:DL.Env->Option Out:=(Zg 9 (ZT (ZJ (eSl (Za 0) (xP (eC (.int 4))) (xP (eC (.int 204))))) (Zo 0) (λ_=>some true) (eOp modW (Za 0) (eCB lenD (Zb (eOp ixD (Za 1) (eC (.int 0))) eNil))) 1 [4]))
noncomputable def mB:DL.Env->Option Out:=(sIf (YJ (xB (Zy 3 Uo [] (Zb (Za 2) (Zb (Za 8) (Zb (eSl (Za 9) xNoP (xP (eOp modW (Za 10) (eOp addX (eCB lenD (Zb (Za 9) eNil)) (eC (.int 1)))))) eNil)))))) (ZA (eC (.bl false))) sNext)
noncomputable def mL:DL.Env->Option (List D):=(ZJ (Zv (Zb (eC (.int 0)) (Zb (eOp ixD (Za 1) (eC (.int 17))) (Zb (eOp ixD (Za 1) (eC (.int 18))) (Zb (eOp ixD (Za 1) (eC (.int 19))) eNil))))))
noncomputable def mR:DL.Env->Option Out:=(ZA (Zy 3 Uo [] (Zb (Za 2) (Zb (Za 8) (Zb (Za 9) eNil)))))
theorem ZiK:f_QU=Zd (Zg 1 (Zy 3 Qz [] (Zb (Za 0) (Zb (eC (.int 4)) (Zb (eC (.int 20)) eNil))))) (Zd m2 (Zd m6 (Zd m7 (Zd m8 (Zd m9 (Zd (ZB mL (Zo 10) mB) mR)))))):=rfl
abbrev M11(ns cs:List Int)(v2 v3 v4 v5 v6 v7 v8 v9 v10:Option D):DL.Env:=[some (IL ns),some (IL cs),v2,v3,v4,v5,v6,v7,v8,v9,v10]
theorem cut_to{α:Type}(r:List α)(j:Nat):cutL r none (some (j:Int))=r.take j:=by
 unfold cutL Z3;have e:¬((j:Int)<0):=by omega
 have e2:((j:Int)).toNat=j:=by omega
 simp only [e,if_false,e2,List.drop_zero,Nat.sub_zero]
 by_cases h:j<=r.length
 · rw [Nat.min_eq_left h]
 · rw [Nat.min_eq_right (by omega),List.take_of_length_le (Nat.le_refl _),List.take_of_length_le (by omega)]
theorem Zg6{α:Type}(xs:List α)(lo hi:Option Int):(cutL xs lo hi).length<=xs.length:=by
 unfold cutL;rw [List.length_take,List.length_drop];omega
theorem Zfc(ns cs:List Int)(hn:ns.length<=63){W:List (List Pr)}{r:List Pr}(hr:W[0]? = some r)(h1:1<=r.length)(v2 v3 v5 v6 v7 v8 v9 v10:Option D):∃ss:List Nat,(∀s∈ss,s<r.length)/\ss.length<=63/\m9 (M11 ns cs v2 v3 (some (.tup (W.map rwD))) v5 v6 v7 v8 v9 v10)=some (.nx (M11 ns cs v2 v3 (some (.tup (W.map rwD))) v5 v6 v7 v8 (some (AD ss)) v10)):=by
 have hk:=Zg6 ns (some 4) (some 204)
 have hs:eSl (Za 0) (xP (eC (.int 4))) (xP (eC (.int 204))) (M11 ns cs v2 v3 (some (.tup (W.map rwD))) v5 v6 v7 v8 v9 v10)=some (.lst ((cutL ns (some 4) (some 204)).map D.int)):=by
  rw [<-Zbp];rfl
 generalize cutL ns (some 4) (some 204)=ks at hk hs
 have hc:ZZ (Zo 0) (λ_=>some true) (eOp modW (Za 0) (eCB lenD (Zb (eOp ixD (Za 1) (eC (.int 0))) eNil))) [none,some (.tup (W.map rwD))] (ks.map D.int)=some (ks.map λc=>nD (c.fmod r.length).toNat):=XZ D.int _ _ λc _=>⟨[some (.int c),some (.tup (W.map rwD))],rfl,by
  obtain⟨a,ha,_⟩:=YK c (m:=r.length) h1;refine(Zk (x:=.int c) (y:=nD r.length) rfl ((ZN (Zh (x:=rwD r) ((Zk (x:=.tup (W.map rwD)) (y:=nD 0) rfl rfl).trans (ix_tup (by rw [List.getElem?_map,hr];rfl))) nil_of)).trans (len_tup.trans (by rw [List.length_map])))).trans ((Yt (by omega)).trans ?_);rw [ha,Int.toNat_natCast]⟩
 have e:(ks.map λc=>nD (c.fmod r.length).toNat)=(ks.map λc=>(c.fmod r.length).toNat).map nD:=by rw [List.map_map];rfl
 rw [e]at hc;refine⟨ks.map λc:Int=>(c.fmod (r.length:Int)).toNat,λs hs => ?_,by rw [List.length_map];omega,Zz (XU (XF hs) rfl hc (by rw [List.length_map,List.length_map];omega))⟩;obtain⟨c,_,rfl⟩:=List.mem_map.mp hs;obtain⟨a,ha,hal⟩:=YK c (m:=r.length) h1;rw [ha,Int.toNat_natCast];exact hal
theorem all_true:∀ns:List Int,ns.length<=63->Jp [.lst (ns.map D.int)]=some (.bl true):=λns hn=>by
 obtain⟨cs,hcs,ef⟩:=Zig ns hn;have t1:Zg 1 (Zy 3 Qz [] (Zb (Za 0) (Zb (eC (.int 4)) (Zb (eC (.int 20)) eNil)))) [some (IL ns),none,none,none,none,none,none,none,none,none,none]=some (.nx (M11 ns cs none none none none none none none none none)):=Zz ((YC (n:=3) (Zh (x:=IL ns) rfl (Zh (x:=.int 4) rfl (Zh (x:=.int 20) rfl nil_of))) rfl).trans ef);obtain⟨mk,gw,x,base,q,rows,n,dp,sp,L,el⟩:=ZgR ns cs hcs
 have s1:=L.dl.s1;have s8:=L.dl.s8;have b1:=L.hb.ne;have b4:=L.hb.l4;have d3:=L.dl.d3;have hm1:1*1<=base.length*sp:=Nat.mul_le_mul b1 s1;have hm4:base.length*sp<=4*8:=Nat.mul_le_mul b4 s8;generalize hHm:dHm base sp base.length=hm at el;have hml:hm.length=base.length*sp:=by rw [<-hHm,Zdq]
 have t2:m2 (M11 ns cs none none none none none none none none none)=some (.nx (M11 ns cs (some (gD mk gw x)) (some (.tup (hm.map nD))) (some (.tup ((dW base rows cs n dp sp base.length).map rwD))) (some (nD dp)) none none none none none)):=Zg2 ((YC (n:=2) (Zh (x:=IL ns) rfl (Zh (x:=IL cs) rfl nil_of)) rfl).trans el);obtain⟨f,ef,fl⟩:=YK (ns.getD 0 0) (m:=base.length*sp) (by omega)
 have t6:m6 (M11 ns cs (some (gD mk gw x)) (some (.tup (hm.map nD))) (some (.tup ((dW base rows cs n dp sp base.length).map rwD))) (some (nD dp)) none none none none none)=some (.nx (M11 ns cs (some (gD mk gw x)) (some (.tup (hm.map nD))) (some (.tup ((dW base rows cs n dp sp base.length).map rwD))) (some (nD dp)) (some (nD f)) none none none none)):=Zz ((Zk (y:=nD (base.length*sp)) (V2 0 rfl) ((ZN (Zh (x:=.tup (hm.map nD)) rfl nil_of)).trans (len_tup.trans (by rw [List.length_map,hml])))).trans ((Yt (by omega)).trans (by rw [ef])))
 obtain⟨k,ek,kl⟩:=YK ((ns.getD 0 0).fdiv 16) (m:=3) (by decide);have ek':((ns.getD 0 0).fdiv 16).fmod 3=(k:Int):=ek;have t7:m7 (M11 ns cs (some (gD mk gw x)) (some (.tup (hm.map nD))) (some (.tup ((dW base rows cs n dp sp base.length).map rwD))) (some (nD dp)) (some (nD f)) none none none none)=some (.nx (M11 ns cs (some (gD mk gw x)) (some (.tup (hm.map nD))) (some (.tup ((dW base rows cs n dp sp base.length).map rwD))) (some (nD dp)) (some (nD f)) (some (nD (dp+k))) none none none)):=Zz ((Zk (x:=nD dp) (y:=nD k) rfl ((Zk (y:=.int 3) ((Zk (y:=.int 16) (V2 0 rfl) rfl).trans (Xq (by decide) (by decide))) rfl).trans ((Yt (by decide)).trans (by rw [ek'])))).trans ((add_int _ _).trans (by rw [nD,Int.natCast_add])))
 obtain⟨al,lok,lall,ela⟩:=Ze2 L.g;obtain⟨p1,p2,p3⟩:=plc s1 fl;obtain⟨eW,eH⟩:=ZhN (base:=base) (rows:=rows) (cs:=cs) (n:=n) (dp:=dp) s1 fl;rw [hHm]at eH
 have hbl:base.getD (f / sp) 0∈base:=by
  rw [List.getD_eq_getElem?_getD,List.getElem?_eq_getElem p1];exact List.getElem_mem p1
 obtain⟨⟨r0,lead⟩,hal,er0⟩:=List.mem_map.mp (lall _ (L.hb.lt _ hbl));have er0:r0=base.getD (f / sp) 0:=er0;subst er0;obtain⟨_,wl,ll,lc⟩:=lok.wk _ _ hal;have all4:=lok.len;have r4:=L.g.r4;have o:=Zg5 (cs:=cs) L lead (by omega) fl (a:=dp+k) (by omega) (by omega);rw [hHm]at o
 have wkp:Wk mk gw ⟨lead,f,dp+k,hm,dW base rows cs n dp sp base.length,n,q⟩:=⟨L.g,base.getD (f / sp) 0,wl,lc,λss bs e P=>by
  obtain⟨w1,w2⟩:=Zfb L P fl;exact⟨_,w1,w2⟩⟩
 have t8:m8 (M11 ns cs (some (gD mk gw x)) (some (.tup (hm.map nD))) (some (.tup ((dW base rows cs n dp sp base.length).map rwD))) (some (nD dp)) (some (nD f)) (some (nD (dp+k))) none none none)=some (.nx (M11 ns cs (some (gD mk gw x)) (some (.tup (hm.map nD))) (some (.tup ((dW base rows cs n dp sp base.length).map rwD))) (some (nD dp)) (some (nD f)) (some (nD (dp+k))) (some (Pl.obj ⟨lead,f,dp+k,hm,dW base rows cs n dp sp base.length,n,q⟩)) none none)):=Zz ((ZgG (n:=6) (Zh (x:=.str lead) ((Zk (x:=alD al) (y:=nD (base.getD (f / sp) 0)) ((YC (n:=2) (Zh (ZfV rfl) (Zh (Ju rfl) nil_of)) rfl).trans ela) ((Zk (x:=.tup (hm.map nD)) (y:=nD f) rfl rfl).trans (ix_tup (by rw [List.getElem?_map,eH];rfl)))).trans (ZfF lok.nd hal)) (Zh (x:=nD f) rfl (Zh (x:=nD (dp+k)) rfl (Zh (x:=.tup (hm.map nD)) rfl (Zh (x:=.tup ((dW base rows cs n dp sp base.length).map rwD)) rfl nil_of))))) rfl).trans (ZgS _ o))
 obtain⟨eW0,_⟩:=ZhN (base:=base) (rows:=rows) (cs:=cs) (n:=n) (dp:=dp) (a:=0) s1 (by omega);have hrl:(Yu base rows cs n dp sp (0 / sp) (0 % sp)).length=n:=by unfold Yu;simp
 obtain⟨ss,hs,hsl,t9⟩:=Zfc ns cs hn eW0 (by rw [hrl];exact L.dl.n1) (some (gD mk gw x)) (some (.tup (hm.map nD))) (some (nD dp)) (some (nD f)) (some (nD (dp+k))) (some (Pl.obj ⟨lead,f,dp+k,hm,dW base rows cs n dp sp base.length,n,q⟩)) none none;rw [hrl]at hs;generalize hp:(⟨lead,f,dp+k,hm,dW base rows cs n dp sp base.length,n,q⟩:Pl)=p at o wkp t8 t9;have hpn:n=p.n:=by rw [<-hp]
 rw [hpn]at hs;generalize (some (D.tup (hm.map nD)):Option D)=v3 at t2 t6 t7 t8 t9;generalize (some (D.tup ((dW base rows cs n dp sp base.length).map rwD)):Option D)=v4 at t2 t6 t7 t8 t9;have bk:∀j,Uo [gD mk gw x,p.obj,AD (ss.take j)]=some (.bl true):=λj=>Zg4 o wkp x (λs hx=>hs s (List.mem_of_mem_take hx)) (by rw [List.length_take];omega)
 have hc17:∀i:Nat,i<20->∀v2 v3 v4 v5 v6 v7 v8 v9 v10,eOp ixD (Za 1) (eC (.int (i:Int))) (M11 ns cs v2 v3 v4 v5 v6 v7 v8 v9 v10)=some (.int (cs.getD i 0)):=λi hi v2 v3 v4 v5 v6 v7 v8 v9 v10=>(Zk (x:=IL cs) (y:=nD i) rfl rfl).trans (Q9 (by omega))
 obtain⟨δ',g,w10,rfl⟩:=Q7 (γ:=Zo 10) (φ:=mB) (λδ=>∃w10,δ=M11 ns cs (some (gD mk gw x)) v3 v4 (some (nD dp)) (some (nD f)) (some (nD (dp+k))) (some p.obj) (some (AD ss)) w10) ([0,cs.getD 17 0,cs.getD 18 0,cs.getD 19 0].map D.int) (M11 ns cs (some (gD mk gw x)) v3 v4 (some (nD dp)) (some (nD f)) (some (nD (dp+k))) (some p.obj) (some (AD ss)) none) ⟨none,rfl⟩ (by
  rintro y hy δ ⟨w10,rfl⟩
  obtain⟨c,_,rfl⟩:=List.mem_map.mp hy;obtain⟨j,ej,_⟩:=YK c (m:=ss.length+1) (by omega);refine⟨M11 ns cs (some (gD mk gw x)) v3 v4 (some (nD dp)) (some (nD f)) (some (nD (dp+k))) (some p.obj) (some (AD ss)) (some (.int c)),rfl,_,(Ye (UN (b:=true) (ZX ((YC (n:=3) (Zh (x:=gD mk gw x) rfl (Zh (x:=p.obj) rfl (Zh (x:=AD (ss.take j)) ?_ nil_of))) rfl).trans (bk j))))).trans rfl,_,rfl⟩
  refine(ZcL (xs:=ss.map nD) (l:=none) (u:=some (j:Int)) rfl rfl (QG ((Zk (x:=.int c) (y:=nD (ss.length+1)) rfl ((Zk (x:=nD ss.length) (y:=.int 1) ((ZN (Zh (x:=AD ss) rfl nil_of)).trans (len_lst.trans (by rw [List.length_map]))) rfl).trans (add_int _ _))).trans ((Yt (by omega)).trans (by rw [ej]))))).trans ?_;rw [Zbp,cut_to])
 have tL:ZB mL (Zo 10) mB (M11 ns cs (some (gD mk gw x)) v3 v4 (some (nD dp)) (some (nD f)) (some (nD (dp+k))) (some p.obj) (some (AD ss)) none)=some (.nx (M11 ns cs (some (gD mk gw x)) v3 v4 (some (nD dp)) (some (nD f)) (some (nD (dp+k))) (some p.obj) (some (AD ss)) w10)):=Ym (XF (Yy (Zh (x:=.int 0) rfl (Zh (hc17 17 (by decide) _ _ _ _ _ _ _ _ _) (Zh (hc17 18 (by decide) _ _ _ _ _ _ _ _ _) (Zh (hc17 19 (by decide) _ _ _ _ _ _ _ _ _) nil_of)))) (show 4<=1000 by decide))) g
 have tR:mR (M11 ns cs (some (gD mk gw x)) v3 v4 (some (nD dp)) (some (nD f)) (some (nD (dp+k))) (some p.obj) (some (AD ss)) w10)=some (.rt (.bl true)):=Yx ((YC (n:=3) (Zh (x:=gD mk gw x) rfl (Zh (x:=p.obj) rfl (Zh (x:=AD ss) rfl nil_of))) rfl).trans (by
  have:=bk ss.length
  rwa [List.take_of_length_le (Nat.le_refl _)]at this))
 refine Yz rfl ?_;rw [ZiK];refine(Zp t1).trans ?_;rw [Zp t2,Zp t6,Zp t7,Zp t8,Zp t9,Zp tL];exact tR
end K44
namespace K44
open PySem PySem.Spec L2 DL
def Jy(K:PySem.W.Frag):Sp:=λvs H Q _=>∃(a:Addr) (ns:List Int),vs=[.ref a]/\SqL K H a (ns.map V.int)/\ns.length<=63/\∀H',Q (.bl true) H'
theorem ZiL(hall:∀ns:List Int,ns.length<=63->Jp [.lst (ns.map D.int)]=some (.bl true)){P:Program}{w:World}{K:PySem.W.Frag}{mg:Str->Option Value}{base:Heap}{t:Adr}(T:Txt K mg t):FnOk P w K mg base CX0 5 t.a_QU t.d_QU ["script"] (Jy K):=
 (ZjN T).imp λvs H Q E ⟨a,ns,hv,hr,hl,q⟩=>by
   subst hv;refine⟨λ_=>False,[.lst (ns.map D.int)],.bl true,λ_ z=>z.elim,.cons ?_ .nil,rfl,hall ns hl,λv H' _ r => ?_⟩
   · unfold Rep
     refine⟨a,_,rfl,λz=>z.elim,hr,?_⟩;have:=RepL.of_vals (cA:=⟨t.c,K⟩) (av:=λ_=>False) (H:=H) (xs:=ns.map D.int) (by rw [List.all_map];exact List.all_eq_true.mpr λ_ _=>rfl);rw [List.map_map]at this;exact this
   · cases(show v=_ from r)
     exact q H'
theorem all_mk (hall:∀ns:List Int,ns.length<=63->Jp [.lst (ns.map D.int)]=some (.bl true)) {l:PySem.W.OpenLaw} {w:World} {K:PySem.W.Frag} {h:Heap} {mg:Str->Option Value} {fa:Addr} (X:K.In h) (G:h.Ns mainGlobals mg) (hfa:mg "law" = some (.ref fa))
 {c_Table:Addr}
 {f0:Addr} {od0 an0:Option Addr} {sl0:Array (Option Value)} {oc0 kV0 dc0 pm0 cd0 ct0:Value}
 {f1:Addr} {od1 an1:Option Addr} {sl1:Array (Option Value)} {oc1 kV1 dc1 pm1 cd1 ct1:Value}
 {f2:Addr} {od2 an2:Option Addr} {sl2:Array (Option Value)} {oc2 kV2 dc2 pm2 cd2 ct2:Value}
 {f3:Addr} {od3 an3:Option Addr} {sl3:Array (Option Value)} {oc3 kV3 dc3 pm3 cd3 ct3:Value}
 {f4:Addr} {od4 an4:Option Addr} {sl4:Array (Option Value)} {oc4 kV4 dc4 pm4 cd4 ct4:Value}
 {f5:Addr} {od5 an5:Option Addr} {sl5:Array (Option Value)} {oc5 kV5 dc5 pm5 cd5 ct5:Value}
 {f6:Addr} {od6 an6:Option Addr} {sl6:Array (Option Value)} {oc6 kV6 dc6 pm6 cd6 ct6:Value}
 {f7:Addr} {od7 an7:Option Addr} {sl7:Array (Option Value)} {oc7 kV7 dc7 pm7 cd7 ct7:Value}
 {f8:Addr} {od8 an8:Option Addr} {sl8:Array (Option Value)} {oc8 kV8 dc8 pm8 cd8 ct8:Value}
 {f9:Addr} {od9 an9:Option Addr} {sl9:Array (Option Value)} {oc9 kV9 dc9 pm9 cd9 ct9:Value}
 {f10:Addr} {od10 an10:Option Addr} {sl10:Array (Option Value)} {oc10 kV10 dc10 pm10 cd10 ct10:Value}
 {f11:Addr} {od11 an11:Option Addr} {sl11:Array (Option Value)} {oc11 kV11 dc11 pm11 cd11 ct11:Value}
 {f12:Addr} {od12 an12:Option Addr} {sl12:Array (Option Value)} {oc12 kV12 dc12 pm12 cd12 ct12:Value}
 {f13:Addr} {od13 an13:Option Addr} {sl13:Array (Option Value)} {oc13 kV13 dc13 pm13 cd13 ct13:Value}
 {f14:Addr} {od14 an14:Option Addr} {sl14:Array (Option Value)} {oc14 kV14 dc14 pm14 cd14 ct14:Value}
 {f15:Addr} {od15 an15:Option Addr} {sl15:Array (Option Value)} {oc15 kV15 dc15 pm15 cd15 ct15:Value}
 {f16:Addr} {od16 an16:Option Addr} {sl16:Array (Option Value)} {oc16 kV16 dc16 pm16 cd16 ct16:Value}
 {f17:Addr} {od17 an17:Option Addr} {sl17:Array (Option Value)} {oc17 kV17 dc17 pm17 cd17 ct17:Value}
 {f18:Addr} {od18 an18:Option Addr} {sl18:Array (Option Value)} {oc18 kV18 dc18 pm18 cd18 ct18:Value}
 {f19:Addr} {od19 an19:Option Addr} {sl19:Array (Option Value)} {oc19 kV19 dc19 pm19 cd19 ct19:Value}
 {f20:Addr} {od20 an20:Option Addr} {sl20:Array (Option Value)} {oc20 kV20 dc20 pm20 cd20 ct20:Value}
 (ZlG:nsIn K mainGlobals "Table" = some (some (.ref c_Table)))
 (a0:PySem.W.findIn K (.ref c_Table) "signs" = some (some (.ref f0)))
 (l0:K.lookup f0=some ⟨oc0,od0,.func (fnOf "signs" "Table.signs" (defArgs Vt) (defBody Vt) (defScope Vt) .none kV0 dc0 pm0 an0 cd0 ct0),sl0⟩)
 (c0:codeIn K cd0 "Table.signs" = true)
 (k0:keepIn K (.ref f0)=true)
 (a1:nsIn K mainGlobals "written" = some (some (.ref f1)))
 (l1:K.lookup f1=some ⟨oc1,od1,.func (fnOf "written" "written" (defArgs X6) (defBody X6) (defScope X6) .none kV1 dc1 pm1 an1 cd1 ct1),sl1⟩)
 (c1:codeIn K cd1 "written" = true)
 (k1:keepIn K (.ref f1)=true)
 (a2:PySem.W.findIn K (.ref c_Table) "block_length" = some (some (.ref f2)))
 (l2:K.lookup f2=some ⟨oc2,od2,.func (fnOf "block_length" "Table.block_length" (defArgs Vu) (defBody Vu) (defScope Vu) .none kV2 dc2 pm2 an2 cd2 ct2),sl2⟩)
 (c2:codeIn K cd2 "Table.block_length" = true)
 (k2:keepIn K (.ref f2)=true)
 (a3:nsIn K mainGlobals "blocks_behind" = some (some (.ref f3)))
 (l3:K.lookup f3=some ⟨oc3,od3,.func (fnOf "blocks_behind" "blocks_behind" (defArgs X7) (defBody X7) (defScope X7) .none kV3 dc3 pm3 an3 cd3 ct3),sl3⟩)
 (c3:codeIn K cd3 "blocks_behind" = true)
 (k3:keepIn K (.ref f3)=true)
 (a4:nsIn K mainGlobals "signs_spelled" = some (some (.ref f4)))
 (l4:K.lookup f4=some ⟨oc4,od4,.func (fnOf "signs_spelled" "signs_spelled" (defArgs XW) (defBody XW) (defScope XW) .none kV4 dc4 pm4 an4 cd4 ct4),sl4⟩)
 (c4:codeIn K cd4 "signs_spelled" = true)
 (k4:keepIn K (.ref f4)=true)
 (a5:nsIn K mainGlobals "read" = some (some (.ref f5)))
 (l5:K.lookup f5=some ⟨oc5,od5,.func (fnOf "read" "read" (defArgs Vv) (defBody Vv) (defScope Vv) .none kV5 dc5 pm5 an5 cd5 ct5),sl5⟩)
 (c5:codeIn K cd5 "read" = true)
 (k5:keepIn K (.ref f5)=true)
 (a6:PySem.W.findIn K (.ref c_Table) "__init__" = some (some (.ref f6)))
 (l6:K.lookup f6=some ⟨oc6,od6,.func (fnOf "__init__" "Table.__init__" (defArgs X8) (defBody X8) (defScope X8) .none kV6 dc6 pm6 an6 cd6 ct6),sl6⟩)
 (c6:codeIn K cd6 "Table.__init__" = true)
 (k6:keepIn K (.ref f6)=true)
 (a7:nsIn K mainGlobals "_law_cell_at" = some (some (.ref f7)))
 (l7:K.lookup f7=some ⟨oc7,od7,.func (fnOf "_law_cell_at" "_law_cell_at" (defArgs Vw) (defBody Vw) (defScope Vw) .none kV7 dc7 pm7 an7 cd7 ct7),sl7⟩)
 (c7:codeIn K cd7 "_law_cell_at" = true)
 (k7:keepIn K (.ref f7)=true)
 (a8:nsIn K mainGlobals "_law_folded" = some (some (.ref f8)))
 (l8:K.lookup f8=some ⟨oc8,od8,.func (fnOf "_law_folded" "_law_folded" (defArgs X9) (defBody X9) (defScope X9) .none kV8 dc8 pm8 an8 cd8 ct8),sl8⟩)
 (c8:codeIn K cd8 "_law_folded" = true)
 (k8:keepIn K (.ref f8)=true)
 (a9:nsIn K mainGlobals "_law_marks" = some (some (.ref f9)))
 (l9:K.lookup f9=some ⟨oc9,od9,.func (fnOf "_law_marks" "_law_marks" (defArgs Va) (defBody Va) (defScope Va) .none kV9 dc9 pm9 an9 cd9 ct9),sl9⟩)
 (c9:codeIn K cd9 "_law_marks" = true)
 (k9:keepIn K (.ref f9)=true)
 (a10:nsIn K mainGlobals "_law_last_ways" = some (some (.ref f10)))
 (l10:K.lookup f10=some ⟨oc10,od10,.func (fnOf "_law_last_ways" "_law_last_ways" (defArgs Vx) (defBody Vx) (defScope Vx) .none kV10 dc10 pm10 an10 cd10 ct10),sl10⟩)
 (c10:codeIn K cd10 "_law_last_ways" = true)
 (k10:keepIn K (.ref f10)=true)
 (a11:nsIn K mainGlobals "_law_gap_ways" = some (some (.ref f11)))
 (l11:K.lookup f11=some ⟨oc11,od11,.func (fnOf "_law_gap_ways" "_law_gap_ways" (defArgs Vy) (defBody Vy) (defScope Vy) .none kV11 dc11 pm11 an11 cd11 ct11),sl11⟩)
 (c11:codeIn K cd11 "_law_gap_ways" = true)
 (k11:keepIn K (.ref f11)=true)
 (a12:nsIn K mainGlobals "_law_ground" = some (some (.ref f12)))
 (l12:K.lookup f12=some ⟨oc12,od12,.func (fnOf "_law_ground" "_law_ground" (defArgs Vz) (defBody Vz) (defScope Vz) .none kV12 dc12 pm12 an12 cd12 ct12),sl12⟩)
 (c12:codeIn K cd12 "_law_ground" = true)
 (k12:keepIn K (.ref f12)=true)
 (a13:nsIn K mainGlobals "_law_blocks" = some (some (.ref f13)))
 (l13:K.lookup f13=some ⟨oc13,od13,.func (fnOf "_law_blocks" "_law_blocks" (defArgs VB) (defBody VB) (defScope VB) .none kV13 dc13 pm13 an13 cd13 ct13),sl13⟩)
 (c13:codeIn K cd13 "_law_blocks" = true)
 (k13:keepIn K (.ref f13)=true)
 (a14:nsIn K mainGlobals "_law_choices" = some (some (.ref f14)))
 (l14:K.lookup f14=some ⟨oc14,od14,.func (fnOf "_law_choices" "_law_choices" (defArgs XX) (defBody XX) (defScope XX) .none kV14 dc14 pm14 an14 cd14 ct14),sl14⟩)
 (c14:codeIn K cd14 "_law_choices" = true)
 (k14:keepIn K (.ref f14)=true)
 (a15:nsIn K mainGlobals "_law_leads" = some (some (.ref f15)))
 (l15:K.lookup f15=some ⟨oc15,od15,.func (fnOf "_law_leads" "_law_leads" (defArgs VC) (defBody VC) (defScope VC) .none kV15 dc15 pm15 an15 cd15 ct15),sl15⟩)
 (c15:codeIn K cd15 "_law_leads" = true)
 (k15:keepIn K (.ref f15)=true)
 (a16:nsIn K mainGlobals "_law_delayed" = some (some (.ref f16)))
 (l16:K.lookup f16=some ⟨oc16,od16,.func (fnOf "_law_delayed" "_law_delayed" (defArgs VD) (defBody VD) (defScope VD) .none kV16 dc16 pm16 an16 cd16 ct16),sl16⟩)
 (c16:codeIn K cd16 "_law_delayed" = true)
 (k16:keepIn K (.ref f16)=true)
 (a17:nsIn K mainGlobals "_law_late" = some (some (.ref f17)))
 (l17:K.lookup f17=some ⟨oc17,od17,.func (fnOf "_law_late" "_law_late" (defArgs Vb) (defBody Vb) (defScope Vb) .none kV17 dc17 pm17 an17 cd17 ct17),sl17⟩)
 (c17:codeIn K cd17 "_law_late" = true)
 (k17:keepIn K (.ref f17)=true)
 (a18:nsIn K mainGlobals "_law_walks" = some (some (.ref f18)))
 (l18:K.lookup f18=some ⟨oc18,od18,.func (fnOf "_law_walks" "_law_walks" (defArgs VH) (defBody VH) (defScope VH) .none kV18 dc18 pm18 an18 cd18 ct18),sl18⟩)
 (c18:codeIn K cd18 "_law_walks" = true)
 (k18:keepIn K (.ref f18)=true)
 (a19:nsIn K mainGlobals "_law_back" = some (some (.ref f19)))
 (l19:K.lookup f19=some ⟨oc19,od19,.func (fnOf "_law_back" "_law_back" (defArgs VL) (defBody VL) (defScope VL) .none kV19 dc19 pm19 an19 cd19 ct19),sl19⟩)
 (c19:codeIn K cd19 "_law_back" = true)
 (k19:keepIn K (.ref f19)=true)
 (a20:nsIn K mainGlobals "law" = some (some (.ref f20)))
 (l20:K.lookup f20=some ⟨oc20,od20,.func (fnOf "law" "law" (defArgs Xp) (defBody Xp) (defScope Xp) .none kV20 dc20 pm20 an20 cd20 ct20),sl20⟩)
 (c20:codeIn K cd20 "law" = true)
 (k20:keepIn K (.ref f20)=true)
 (ZlH:nsIn K mainGlobals "ValueError" = some none)
 (ZlI:nsIn K mainGlobals "all" = some none)
 (ZlJ:nsIn K mainGlobals "bool" = some none)
 (ZlK:nsIn K mainGlobals "enumerate" = some none)
 (ZlL:nsIn K mainGlobals "int" = some none)
 (ZlM:nsIn K mainGlobals "isinstance" = some none)
 (ZlN:nsIn K mainGlobals "len" = some none)
 (ZlO:nsIn K mainGlobals "list" = some none)
 (ZlP:nsIn K mainGlobals "min" = some none)
 (ZlQ:nsIn K mainGlobals "range" = some none)
 (ZlR:nsIn K mainGlobals "tuple" = some none)
 (ZlD:PySem.W.plainGet K c_Table Str.empty=true)
 (Zk3:PySem.W.hasDictIn K c_Table=true)
 (ZlE:PySem.W.plainOver K c_Table=true)
 (ZlF:PySem.W.findIn K (.ref c_Table) "__setattr__" = some (some (.builtin "object.__setattr__")))
 (Zk2:PySem.W.findIn K (.ref c_Table) "__class__" = some (some (.builtin "object.__class__")))
 (Zk4:PySem.W.mroIn K c_Table (.type "object")=some true)
 (Zlv:PySem.W.makesIn K c_Table=true)
 (Zlq:keepIn K (.ref c_Table)=true)
 (Zlu:PySem.W.findIn K (.ref c_Table) "__init__" = some (some (.ref f6)))
 (Zlt:isFn K (.ref f6)=true)
 (hn_:PySem.W.specialIn K (.builtin "object.__class__") "__get__" = some (some (.builtin "getset_descriptor.__get__")))
 (htk_:PySem.W.takesIn K (.builtin "object.__class__")=some true)
 (Zly:PySem.W.findIn K (.ref c_Table) "ahead" = some none)
 (Zlz:PySem.W.findIn K (.ref c_Table) "first" = some none)
 (ZlA:PySem.W.findIn K (.ref c_Table) "homes" = some none)
 (ZlB:PySem.W.findIn K (.ref c_Table) "lead" = some none)
 (ZlC:PySem.W.findIn K (.ref c_Table) "ways" = some none)
 (Zlr:PySem.W.findIn K (.ref c_Table) "block_length" = some (some (.ref f2)))
 (Zlw:isFn K (.ref f2)=true)
 (Zls:PySem.W.findIn K (.ref c_Table) "signs" = some (some (.ref f0)))
 (Zlx:isFn K (.ref f0)=true)
 (Zk5:kitOne K (.type "NoneType") (.type "bool")=some false)
 (Zlb:kitOne K (.type "bool") (.type "bool")=some true)
 (Zle:kitOne K (.type "int") (.type "bool")=some false)
 (Zlk:kitOne K (.type "str") (.type "bool")=some false)
 (Zlh:kitOne K (.type "list") (.type "bool")=some false)
 (Zln:kitOne K (.type "tuple") (.type "bool")=some false)
 (Zk8:kitOne K (.ref c_Table) (.type "bool")=some false)
 (Zk6:kitOne K (.type "NoneType") (.type "int")=some false)
 (Zlc:kitOne K (.type "bool") (.type "int")=some true)
 (Zlf:kitOne K (.type "int") (.type "int")=some true)
 (Zll:kitOne K (.type "str") (.type "int")=some false)
 (Zli:kitOne K (.type "list") (.type "int")=some false)
 (Zlo:kitOne K (.type "tuple") (.type "int")=some false)
 (Zk9:kitOne K (.ref c_Table) (.type "int")=some false)
 (Zk7:kitOne K (.type "NoneType") (.type "list")=some false)
 (Zld:kitOne K (.type "bool") (.type "list")=some false)
 (Zlg:kitOne K (.type "int") (.type "list")=some false)
 (Zlm:kitOne K (.type "str") (.type "list")=some false)
 (Zlj:kitOne K (.type "list") (.type "list")=some true)
 (Zlp:kitOne K (.type "tuple") (.type "list")=some false)
 (Zla:kitOne K (.ref c_Table) (.type "list")=some false)
 : ∃fd:FuncData,(∀(s:Shared)(v:Value),BindsTo s fd ⟨[v],[]⟩ [("script",v)])/\∀base:Heap,K.In base->base.Ns mainGlobals mg->FnOk l.prog w K mg base CX0 5 fa fd ["script"] (Jy K):=by
 have e:=hfa.symm.trans (mg_of X G a20);cases e;have F0:FunX K "signs" "Table.signs" Vt f0 _:=(ZM (st:=Vt) l0 c0 k0).x;have b0:=(ZM (st:=Vt) l0 c0 k0).binds (ps:=["self"]) λ_ _ _ _ _ _ us hl=>match us,hl with|[_],_=>rfl
 have F1:FunX K "written" "written" X6 f1 _:=(ZM (st:=X6) l1 c1 k1).x;have b1:=(ZM (st:=X6) l1 c1 k1).binds (ps:=["table", "signs"]) λ_ _ _ _ _ _ us hl=>match us,hl with|[_,_],_=>rfl
 have F2:FunX K "block_length" "Table.block_length" Vu f2 _:=(ZM (st:=Vu) l2 c2 k2).x;have b2:=(ZM (st:=Vu) l2 c2 k2).binds (ps:=["self"]) λ_ _ _ _ _ _ us hl=>match us,hl with|[_],_=>rfl
 have F3:FunX K "blocks_behind" "blocks_behind" X7 f3 _:=(ZM (st:=X7) l3 c3 k3).x;have b3:=(ZM (st:=X7) l3 c3 k3).binds (ps:=["table", "row"]) λ_ _ _ _ _ _ us hl=>match us,hl with|[_,_],_=>rfl
 have F4:FunX K "signs_spelled" "signs_spelled" XW f4 _:=(ZM (st:=XW) l4 c4 k4).x;have b4:=(ZM (st:=XW) l4 c4 k4).binds (ps:=["table", "places", "blocks"]) λ_ _ _ _ _ _ us hl=>match us,hl with|[_,_,_],_=>rfl
 have F5:FunX K "read" "read" Vv f5 _:=(ZM (st:=Vv) l5 c5 k5).x;have b5:=(ZM (st:=Vv) l5 c5 k5).binds (ps:=["table", "row"]) λ_ _ _ _ _ _ us hl=>match us,hl with|[_,_],_=>rfl
 have F6:FunX K "__init__" "Table.__init__" X8 f6 _:=(ZM (st:=X8) l6 c6 k6).x;have b6:=(ZM (st:=X8) l6 c6 k6).binds (ps:=["self", "lead", "first", "ahead", "homes", "ways"]) λ_ _ _ _ _ _ us hl=>match us,hl with|[_,_,_,_,_,_],_=>rfl
 have F7:FunX K "_law_cell_at" "_law_cell_at" Vw f7 _:=(ZM (st:=Vw) l7 c7 k7).x;have b7:=(ZM (st:=Vw) l7 c7 k7).binds (ps:=["script", "k"]) λ_ _ _ _ _ _ us hl=>match us,hl with|[_,_],_=>rfl
 have F8:FunX K "_law_folded" "_law_folded" X9 f8 _:=(ZM (st:=X9) l8 c8 k8).x;have b8:=(ZM (st:=X9) l8 c8 k8).binds (ps:=["script", "behind", "many"]) λ_ _ _ _ _ _ us hl=>match us,hl with|[_,_,_],_=>rfl
 have F9:FunX K "_law_marks" "_law_marks" Va f9 _:=(ZM (st:=Va) l9 c9 k9).x;have b9:=(ZM (st:=Va) l9 c9 k9).binds (ps:=["cell", "many"]) λ_ _ _ _ _ _ us hl=>match us,hl with|[_,_],_=>rfl
 have F10:FunX K "_law_last_ways" "_law_last_ways" Vx f10 _:=(ZM (st:=Vx) l10 c10 k10).x;have b10:=(ZM (st:=Vx) l10 c10 k10).binds (ps:=["cell", "many"]) λ_ _ _ _ _ _ us hl=>match us,hl with|[_,_],_=>rfl
 have F11:FunX K "_law_gap_ways" "_law_gap_ways" Vy f11 _:=(ZM (st:=Vy) l11 c11 k11).x;have b11:=(ZM (st:=Vy) l11 c11 k11).binds (ps:=["fewest", "most"]) λ_ _ _ _ _ _ us hl=>match us,hl with|[_,_],_=>rfl
 have F12:FunX K "_law_ground" "_law_ground" Vz f12 _:=(ZM (st:=Vz) l12 c12 k12).x;have b12:=(ZM (st:=Vz) l12 c12 k12).binds (ps:=["cell", "other"]) λ_ _ _ _ _ _ us hl=>match us,hl with|[_,_],_=>rfl
 have F13:FunX K "_law_blocks" "_law_blocks" VB f13 _:=(ZM (st:=VB) l13 c13 k13).x;have b13:=(ZM (st:=VB) l13 c13 k13).binds (ps:=["marks", "ways", "room", "q"]) λ_ _ _ _ _ _ us hl=>match us,hl with|[_,_,_,_],_=>rfl
 have F14:FunX K "_law_choices" "_law_choices" XX f14 _:=(ZM (st:=XX) l14 c14 k14).x;have b14:=(ZM (st:=XX) l14 c14 k14).binds (ps:=["ground", "base", "cell"]) λ_ _ _ _ _ _ us hl=>match us,hl with|[_,_,_],_=>rfl
 have F15:FunX K "_law_leads" "_law_leads" VC f15 _:=(ZM (st:=VC) l15 c15 k15).x;have b15:=(ZM (st:=VC) l15 c15 k15).binds (ps:=["marks", "ways"]) λ_ _ _ _ _ _ us hl=>match us,hl with|[_,_],_=>rfl
 have F16:FunX K "_law_delayed" "_law_delayed" VD f16 _:=(ZM (st:=VD) l16 c16 k16).x;have b16:=(ZM (st:=VD) l16 c16 k16).binds (ps:=["base", "choices", "n", "depth", "cells"]) λ_ _ _ _ _ _ us hl=>match us,hl with|[_,_,_,_,_],_=>rfl
 have F17:FunX K "_law_late" "_law_late" Vb f17 _:=(ZM (st:=Vb) l17 c17 k17).x;have b17:=(ZM (st:=Vb) l17 c17 k17).binds (ps:=["script", "cells"]) λ_ _ _ _ _ _ us hl=>match us,hl with|[_,_],_=>rfl
 have F18:FunX K "_law_walks" "_law_walks" VH f18 _:=(ZM (st:=VH) l18 c18 k18).x;have b18:=(ZM (st:=VH) l18 c18 k18).binds (ps:=["ground", "row"]) λ_ _ _ _ _ _ us hl=>match us,hl with|[_,_],_=>rfl
 have F19:FunX K "_law_back" "_law_back" VL f19 _:=(ZM (st:=VL) l19 c19 k19).x;have b19:=(ZM (st:=VL) l19 c19 k19).binds (ps:=["ground", "table", "signs"]) λ_ _ _ _ _ _ us hl=>match us,hl with|[_,_,_],_=>rfl
 have F20:FunX K "law" "law" Xp fa _:=(ZM (st:=Xp) l20 c20 k20).x;have b20:=(ZM (st:=Xp) l20 c20 k20).binds (ps:=["script"]) λ_ _ _ _ _ _ us hl=>match us,hl with|[_],_=>rfl
 have T:Txt K mg { a_QI:=f0,d_QI:=_,a_QS:=f1,d_QS:=_,a_QA:=f2,d_QA:=_,a_QC:=f3,d_QC:=_,a_QE:=f4,d_QE:=_,a_QT:=f5,d_QT:=_,a_QN:=f6,d_QN:=_,a_QG:=f7,d_QG:=_,a_QK:=f8,d_QK:=_,a_QO:=f9,d_QO:=_,a_QB:=f10,d_QB:=_,a_QD:=f11,d_QD:=_,a_QL:=f12,d_QL:=_,a_QJ:=f13,d_QJ:=_,a_QH:=f14,d_QH:=_,a_QM:=f15,d_QM:=_,a_QF:=f16,d_QF:=_,a_QR:=f17,d_QR:=_,a_QP:=f18,d_QP:=_,a_QQ:=f19,d_QQ:=_,a_QU:=fa,d_QU:=_,c_Table:=c_Table }:={ f_QI:=F0,b_QI:=b0,k_QI:=k0,f_QS:=F1,b_QS:=b1,g_QS:=mg_of X G a1,k_QS:=k1,f_QA:=F2,b_QA:=b2,k_QA:=k2,f_QC:=F3,b_QC:=b3,g_QC:=mg_of X G a3,k_QC:=k3,f_QE:=F4,b_QE:=b4,g_QE:=mg_of X G a4,k_QE:=k4,f_QT:=F5,b_QT:=b5,g_QT:=mg_of X G a5,k_QT:=k5,f_QN:=F6,b_QN:=b6,k_QN:=k6,f_QG:=F7,b_QG:=b7,g_QG:=mg_of X G a7,k_QG:=k7,f_QK:=F8,b_QK:=b8,g_QK:=mg_of X G a8,k_QK:=k8,f_QO:=F9,b_QO:=b9,g_QO:=mg_of X G a9,k_QO:=k9,f_QB:=F10,b_QB:=b10,g_QB:=mg_of X G a10,k_QB:=k10,f_QD:=F11,b_QD:=b11,g_QD:=mg_of X G a11,k_QD:=k11,f_QL:=F12,b_QL:=b12,g_QL:=mg_of X G a12,k_QL:=k12,f_QJ:=F13,b_QJ:=b13,g_QJ:=mg_of X G a13,k_QJ:=k13,f_QH:=F14,b_QH:=b14,g_QH:=mg_of X G a14,k_QH:=k14,f_QM:=F15,b_QM:=b15,g_QM:=mg_of X G a15,k_QM:=k15,f_QF:=F16,b_QF:=b16,g_QF:=mg_of X G a16,k_QF:=k16,f_QR:=F17,b_QR:=b17,g_QR:=mg_of X G a17,k_QR:=k17,f_QP:=F18,b_QP:=b18,g_QP:=mg_of X G a18,k_QP:=k18,f_QQ:=F19,b_QQ:=b19,g_QQ:=mg_of X G a19,k_QQ:=k19,f_QU:=F20,b_QU:=b20,g_QU:=mg_of X G a20,k_QU:=k20,n_ValueError:=mg_none_of X G ZlH,n_all:=mg_none_of X G ZlI,n_bool:=mg_none_of X G ZlJ,n_enumerate:=mg_none_of X G ZlK,n_int:=mg_none_of X G ZlL,n_isinstance:=mg_none_of X G ZlM,n_len:=mg_none_of X G ZlN,n_list:=mg_none_of X G ZlO,n_min:=mg_none_of X G ZlP,n_range:=mg_none_of X G ZlQ,n_tuple:=mg_none_of X G ZlR,g_Table:=mg_of X G ZlG,cl_Table:=⟨ZlD,Zk3,ZlE,ZlF⟩,ci_Table:=⟨⟨ZlD,Zk3,ZlE,ZlF⟩,Zk2,hn_,htk_,Zk4⟩,mk_Table:=⟨Zlv,Zlu,Zlt,Zlq⟩,fl_ahead:=(by intro c hc;simp only [Y1,List.mem_cons,List.mem_nil_iff,or_false]at hc;rcases hc with rfl<;>first|exact⟨⟨ZlD,Zk3,ZlE,ZlF⟩,Zly⟩),fl_first:=(by intro c hc;simp only [XV,List.mem_cons,List.mem_nil_iff,or_false]at hc;rcases hc with rfl<;>first|exact⟨⟨ZlD,Zk3,ZlE,ZlF⟩,Zlz⟩),fl_homes:=(by intro c hc;simp only [Ja,List.mem_cons,List.mem_nil_iff,or_false]at hc;rcases hc with rfl<;>first|exact⟨⟨ZlD,Zk3,ZlE,ZlF⟩,ZlA⟩),fl_lead:=(by intro c hc;simp only [YR,List.mem_cons,List.mem_nil_iff,or_false]at hc;rcases hc with rfl<;>first|exact⟨⟨ZlD,Zk3,ZlE,ZlF⟩,ZlB⟩),fl_ways:=(by intro c hc;simp only [YS,List.mem_cons,List.mem_nil_iff,or_false]at hc;rcases hc with rfl<;>first|exact⟨⟨ZlD,Zk3,ZlE,ZlF⟩,ZlC⟩),me_Table_block_length:=⟨Zlr,Zlw,k2⟩,me_Table_signs:=⟨Zls,Zlx,k0⟩,isi_bool:=Zbe (by intro p hp;simp only [Jb,List.mem_cons,List.mem_nil_iff,or_false]at hp;rcases hp with rfl|rfl|rfl|rfl|rfl|rfl|rfl<;>first|exact Zk5|exact Zlb|exact Zle|exact Zlk|exact Zlh|exact Zln|exact⟨Zk8,⟨ZlD,Zk3,ZlE,ZlF⟩,Zk2,hn_,htk_,Zk4⟩),isi_int:=Zbe (by intro p hp;simp only [Jc,List.mem_cons,List.mem_nil_iff,or_false]at hp;rcases hp with rfl|rfl|rfl|rfl|rfl|rfl|rfl<;>first|exact Zk6|exact Zlc|exact Zlf|exact Zll|exact Zli|exact Zlo|exact⟨Zk9,⟨ZlD,Zk3,ZlE,ZlF⟩,Zk2,hn_,htk_,Zk4⟩),isi_list:=Zbe (by intro p hp;simp only [Jd,List.mem_cons,List.mem_nil_iff,or_false]at hp;rcases hp with rfl|rfl|rfl|rfl|rfl|rfl|rfl<;>first|exact Zk7|exact Zld|exact Zlg|exact Zlm|exact Zlj|exact Zlp|exact⟨Zla,⟨ZlD,Zk3,ZlE,ZlF⟩,Zk2,hn_,htk_,Zk4⟩) }
 exact⟨fnOf "law" "law" (defArgs Xp) (defBody Xp) (defScope Xp) .none kV20 dc20 pm20 an20 cd20 ct20,λs v => .of_eq rfl,λbase _ _=>ZiL hall T⟩
theorem walk {l:PySem.W.OpenLaw} {q:Program} {loose:List Str} {XP:(Str->Option Value)->Heap->Prop} {YP:World->Heap->Prop} {d:DefRec} {K:Params->PySem.W.Frag} (hn:l.most=some 63) (hdf:d.params.defaults=[])
 (hY:∀(w:World)(h:Heap),YP w h->(K w.params).In h)
 (F:∀(w:World)(mg:Str->Option Value)(fa:Addr)(h:Heap),(K w.params).In h->h.Ns mainGlobals mg->mg d.name=some (.ref fa) ->
   ∃fd:FuncData,(∀(s:Shared)(u:Value),BindsTo s fd ⟨[u],[]⟩ [("script",u)])/\∀base:Heap,(K w.params).In base->base.Ns mainGlobals mg->FnOk l.prog w (K w.params) mg base CX0 5 fa fd ["script"] (Jy (K w.params))) :
 PySem.W.WalkO q loose XP YP l.row.toRowW d [] (λf vs=>PySem.call f vs):=
 L2.walk_of (n:=63) (k:=5) (x:="script") (CX:=λ_=>CX0) (sp:=λw=>Jy (K w.params)) hn (by decide) hdf ⟨rfl,by decide,by decide⟩ hY F (λ_ _ a ns hl _ hS=>⟨a,ns,rfl,hS,hl,λ_=>rfl⟩) λ_ _ _ _ _ z=>z
end K44
open PySem PySem.W PyProof.Rows
set_option maxRecDepth 100000 in
set_option maxHeartbeats 0 in
theorem PySem.Challenge.cw_grooveway_k44_whole_read_back_holds : PySem.Challenge.rw_grooveway_k44_whole_read_back.Holds := by
 w_on;o_law
 refine holds_open (r:=PySem.Challenge.rw_grooveway_k44_whole_read_back.row) (q:=(view PySem.Challenge.pw_grooveway_k44_whole_read_back [1,2,3,5,6,7,8,10,12,13,14,15,16,17,18,19,20,21,22,23,24,25])) (loose:=[]) (XP:=XL (view PySem.Challenge.pw_grooveway_k44_whole_read_back [1,2,3,5,6,7,8,10,12,13,14,15,16,17,18,19,20,21,22,23,24,25]) []) (YP:=InK K44.kP) K44.left (InK.of K44.kP_as) InK.keeps (λs e=>xl_of s (Bool.and_eq_true_iff.mp e).1) XL.keeps (by rfl) (by rfl) (by rfl) (λs e=>recFacts_of (Bool.and_eq_true_iff.mp e).2) (by rfl) (by assumption) (by decide +kernel) ⟨rfl,rfl,rfl,rfl,rfl,by decide +kernel⟩ ?hw ?hc
 case hw=>w_witness2
 k_fill
 refine K44.walk (l:=PySem.Challenge.rw_grooveway_k44_whole_read_back) rfl rfl (λw h Y=>Y) ?F
 case F=>
  intro w mg fa h KX G hmg;refine' K44.all_mk K44.all_true KX G hmg ?ZlG ?a0 ?l0 ?c0 ?k0 ?a1 ?l1 ?c1 ?k1 ?a2 ?l2 ?c2 ?k2 ?a3 ?l3 ?c3 ?k3 ?a4 ?l4 ?c4 ?k4 ?a5 ?l5 ?c5 ?k5 ?a6 ?l6 ?c6 ?k6 ?a7 ?l7 ?c7 ?k7 ?a8 ?l8 ?c8 ?k8 ?a9 ?l9 ?c9 ?k9 ?a10 ?l10 ?c10 ?k10 ?a11 ?l11 ?c11 ?k11 ?a12 ?l12 ?c12 ?k12 ?a13 ?l13 ?c13 ?k13 ?a14 ?l14 ?c14 ?k14 ?a15 ?l15 ?c15 ?k15 ?a16 ?l16 ?c16 ?k16 ?a17 ?l17 ?c17 ?k17 ?a18 ?l18 ?c18 ?k18 ?a19 ?l19 ?c19 ?k19 ?a20 ?l20 ?c20 ?k20 ?ZlH ?ZlI ?ZlJ ?ZlK ?ZlL ?ZlM ?ZlN ?ZlO ?ZlP ?ZlQ ?ZlR ?ZlD ?Zk3 ?ZlE ?ZlF ?Zk2 ?Zk4 ?Zlv ?Zlq ?Zlu ?Zlt ?hn_ ?htk_ ?Zly ?Zlz ?ZlA ?ZlB ?ZlC ?Zlr ?Zlw ?Zls ?Zlx ?Zk5 ?Zlb ?Zle ?Zlk ?Zlh ?Zln ?Zk8 ?Zk6 ?Zlc ?Zlf ?Zll ?Zli ?Zlo ?Zk9 ?Zk7 ?Zld ?Zlg ?Zlm ?Zlj ?Zlp ?Zla
  (case ZlG|a0|l0|c0|k0|a1|l1|c1|k1|a2|l2|c2|k2|a3|l3|c3|k3|a4|l4|c4|k4|a5|l5|c5|k5|a6|l6|c6|k6|a7|l7|c7|k7|a8|l8|c8|k8|a9|l9|c9|k9|a10|l10|c10|k10|a11|l11|c11|k11|a12|l12|c12|k12|a13|l13|c13|k13|a14|l14|c14|k14|a15|l15|c15|k15|a16|l16|c16|k16|a17|l17|c17|k17|a18|l18|c18|k18|a19|l19|c19|k19|a20|l20|c20|k20|ZlH|ZlI|ZlJ|ZlK|ZlL|ZlM|ZlN|ZlO|ZlP|ZlQ|ZlR|ZlD|Zk3|ZlE|ZlF|Zk2|Zk4|Zlv|Zlq|Zlu|Zlt|hn_|htk_|Zly|Zlz|ZlA|ZlB|ZlC|Zlr|Zlw|Zls|Zlx=>k_is)
  (case Zk5|Zlb|Zle|Zlk|Zlh|Zln|Zk8|Zk6|Zlc|Zlf|Zll|Zli|Zlo|Zk9|Zk7|Zld|Zlg|Zlm|Zlj|Zlp|Zla=>kit_is)
