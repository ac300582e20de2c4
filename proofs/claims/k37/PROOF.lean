import PyProof.Rows.All
import Wide.All
import OpenK.AllK
import Wide.FinOn
import Lean
import PyProof.EqAt
import PyProof.EqKinds
import PyProof.TupleCall
import PyProof.Rows.StrCountLaw
import PyProof.Rows.StrFirst
import PyProof.Rows.StrLast
import PyProof.Rows.StrNews2
import PyProof.Rows.StrSplitCount
import PyProof.StrBlockI
import PyProof.StrLawsIn
import PyProof.StrLawsLast
import PyProof.EnumMake
import PyProof.FString
import PyProof.ReprStr
import PyProof.StrLawsRepr
import PyProof.ListStr
import PyProof.ListRange
import PySem.Challenge.RW_grooveway_k37_a_split_done
set_option Elab.async false
set_option linter.all false
set_option maxRecDepth 100000
set_option maxHeartbeats 4000000
open PySem.W (keepIn nsIn mg_of fnOf codeIn kitOne mg_none_of isFn instObj emptyDict)
namespace L2
open PySem PySem.Spec PyProof.Rows
abbrev Key:=Sum Int Str
def UK:Key->Value->Bool
 | .inl k,v=>Value.isInt k v
 | .inr x,v=>Value.isStrOf x v
def ZlB(w:World):Key->Int
 | .inl k=>hashInt k
 | .inr x=>hashStr w x
theorem Vr:∀{k:Key}{v:Value},UK k v=true->(∃i t,k=Sum.inl i/\v=Value.int i t)\/(∃x t,k=Sum.inr x/\v=Value.str x t)
 | .inl i,v,h=>by
  obtain⟨t,e⟩:=Value.isInt_shape (k:=i) (v:=v) h;exact .inl ⟨i,t,rfl,e⟩
 | .inr x,v,h=>by
  obtain⟨t,e⟩:=Value.isStrOf_shape (x:=x) (v:=v) h;exact .inr ⟨x,t,rfl,e⟩
theorem Zeh(i:Int)(t:Tok):UK (.inl i) (.int i t)=true:=by simp [UK,Value.isInt]
theorem Zei(x:Str)(t:Tok):UK (.inr x) (.str x t)=true:=by simp [UK,Value.isStrOf]
theorem ZiN(a b:Int):decide ((Sum.inl a:Key)=Sum.inl b)=(a == b):=by
 by_cases e:a=b
 · subst e;simp
 · have h:¬(Sum.inl a:Key)=Sum.inl b:=λq=>e (Sum.inl.inj q)
   rw [decide_eq_false h];exact(beq_eq_false_iff_ne.mpr e).symm
theorem ZiO(a b:Str):decide ((Sum.inr a:Key)=Sum.inr b)=decide (a=b):=by
 by_cases e:a=b
 · subst e;simp
 · have h:¬(Sum.inr a:Key)=Sum.inr b:=λq=>e (Sum.inr.inj q)
   rw [decide_eq_false h,decide_eq_false e]
theorem ZiP(a:Int)(b:Str):decide ((Sum.inl a:Key)=Sum.inr b)=false:=decide_eq_false (λq=>nomatch q)
theorem ZiQ(a:Str)(b:Int):decide ((Sum.inr a:Key)=Sum.inl b)=false:=decide_eq_false (λq=>nomatch q)
def Xg(prog:Program)(w:World):PySem.KeyKind prog w Key where
 is:=UK
 hash:=ZlB w
 inj:=λv a b ha hb=>by
  rcases Vr ha with⟨i,t,rfl,rfl⟩|⟨x,t,rfl,rfl⟩
  · rcases Vr hb with⟨j,u,rfl,e⟩|⟨y,u,rfl,e⟩
    · injection e with e1 _;rw [e1]
    · exact nomatch e
  · rcases Vr hb with⟨j,u,rfl,e⟩|⟨y,u,rfl,e⟩
    · exact nomatch e
    · injection e with e1 _;rw [e1]
 byValue:=λk v h=>by
  rcases Vr h with⟨i,t,rfl,rfl⟩|⟨x,t,rfl,rfl⟩<;>rfl
 pyHash:=λhv h=>by
  rcases Vr hv with⟨i,t,rfl,rfl⟩|⟨x,t,rfl,rfl⟩
  · exact wpAny_pyHash_int h
  · exact wpAny_pyHash_str h
 eqBool:=λhu hv h=>by
  rcases Vr hu with⟨i,t,rfl,rfl⟩|⟨x,t,rfl,rfl⟩
  · rcases Vr hv with⟨j,u,rfl,rfl⟩|⟨y,u,rfl,rfl⟩
    · rw [ZiN]at h;exact wpAny_eqBool_int h
    · rw [ZiP]at h;exact SeqAt.EqAt.int_str i t y u _ _ _ _ h
  · rcases Vr hv with⟨j,u,rfl,rfl⟩|⟨y,u,rfl,rfl⟩
    · rw [ZiQ]at h;exact SeqAt.EqAt.str_int x t j u _ _ _ _ h
    · rw [ZiO]at h;exact wpAny_eqBool_str h
 «strs» := λk x t v h=>by
  rcases Vr h with⟨i,u,rfl,e⟩|⟨y,u,rfl,e⟩
  · exact nomatch e
  · injection e with e1 _
    subst e1;cases v<;>rfl
theorem Zb9(prog:Program)(w:World)(i:Int)(t:Tok):(Xg prog w).is (.inl i) (.int i t)=true:=Zeh i t
theorem Zca(prog:Program)(w:World)(x:Str)(t:Tok):(Xg prog w).is (.inr x) (.str x t)=true:=Zei x t
end L2
namespace L2
open PySem PySem.Spec PyProof.Rows
inductive V where
 |non|bl (b:Bool)|int (i:Int)|str (x:Str)|byt (b:Array UInt8)|flt (b:UInt64)|ref (a:Addr)|ty (n:String)
 deriving DecidableEq
def RelV:V->Value->Prop
 | .non,u=>u=Value.none
 | .bl b,u=>u=Value.bool b
 | .int i,u=>∃t,u=Value.int i t
 | .str x,u=>∃t,u=Value.str x t
 | .byt b,u=>∃t,u=Value.bytes b t
 | .flt b,u=>∃t,u=Value.float b t
 | .ref a,u=>u=Value.ref a
 | .ty n,u=>u=Value.type n
abbrev Vals:List V->List Value->Prop:=Paired RelV
theorem Vals.length{xs:List V}{us:List Value}(r:Vals xs us):xs.length=us.length:=Paired.length r
theorem Vals.get:∀{xs:List V}{us:List Value}{i:Nat}{x:V},Vals xs us->xs[i]? = some x->∃u,us[i]? = some u/\RelV x u
 |_,_,_,_,.nil,e=>by simp at e
 |_,_,0,_,.cons r _,e=>by simp at e;subst e;exact⟨_,rfl,r⟩
 |_,_,i+1,x,.cons _ t,e=>by
  obtain⟨u,h1,h2⟩:=Vals.get (i:=i) (x:=x) t (by simpa using e);exact⟨u,by simpa using h1,h2⟩
theorem Vals.set{x:V}{u:Value}(r:RelV x u):∀{xs:List V}{us:List Value}(i:Nat),Vals xs us->Vals (xs.set i x) (us.set i u)
 |_,_,_,.nil => .nil
 |_,_,0,.cons _ t => .cons r t
 |_,_,i+1,.cons q t => .cons q (Vals.set r i t)
theorem Vals.append:∀{xs ys:List V}{us ws:List Value},Vals xs us->Vals ys ws->Vals (xs++ys) (us++ws)
 |_,_,_,_,.nil,s=>s
 |_,_,_,_,.cons r t,s => .cons r (Vals.append t s)
theorem Vals.take:∀{xs:List V}{us:List Value}(n:Nat),Vals xs us->Vals (xs.take n) (us.take n)
 |_,_,0,_ => .nil
 |_,_,_+1,.nil => .nil
 |_,_,n+1,.cons r t => .cons r (Vals.take n t)
theorem Vals.drop:∀{xs:List V}{us:List Value}(n:Nat),Vals xs us->Vals (xs.drop n) (us.drop n)
 |_,_,0,r=>r
 |_,_,_+1,.nil => .nil
 |_,_,n+1,.cons _ t=>Vals.drop n t
def RelO:Option V->Option Value->Prop
 |some v,some u=>RelV v u
 |none,none=>True
 |_,_=>False
def KV{κ:Type}:List (κ×V)->List (κ×Value)->Prop:=Paired λ(p:κ×V) (q:κ×Value)=>p.1=q.1/\RelV p.2 q.2
def kV:Key->V
 | .inl i => .int i
 | .inr x => .str x
inductive HO where
 |lst (xs:List V)
 |tup (xs:List V)
 |dK (kvs:List (Key×V))|dT (kvs:List (List Key×V))
 |set (S:Int->Bool) (n:Nat)
 |ins (C dx:Addr) (fs:List (Str×V))
 |own (x:Addr)
 |xd (fs:List (Str×V))
 |met (f x:Addr)
 |rng (lo hi:Int)
 |frz (o:Obj) (u:HO)
 |tbl (ps:Array Value)
 |ext (φ:Heap->Prop)
abbrev Hp:=Addr->Option HO
def upd(H:Hp)(a:Addr)(o:HO):Hp:=λb=>if b=a then some o else H b
theorem ZN{H:Hp}{a:Addr}{o:HO}:upd H a o a=some o:=by unfold upd;rw [if_pos rfl]
theorem ZI{H:Hp}{a b:Addr}{o:HO}(h:b≠a):upd H a o b=H b:=by unfold upd;rw [if_neg h]
theorem QG{H:Hp}{a b:Addr}{o u:HO}(h:H a=some o)(h':H b=some u)(d:o≠u):a≠b:=by
 intro e;subst e;rw [h]at h';exact d (Option.some.inj h')
theorem YZ{H:Hp}{a b:Addr}{o:HO}(h:H a=some o)(h':H b=none):a≠b:=by
 intro e;subst e;rw [h]at h';cases h'
def TupN(h:Heap)(a:Addr)(its:Array Value):Prop:=∃o,h.get? a=some o/\o.cls = .type "tuple" /\ (∃n,o.data = .seq its n)/\o.dict=none
theorem TupN.tup{h:Heap}{a:Addr}{its:Array Value}(x:TupN h a its):IsTup h a its:=let⟨o,e,c,d,_⟩:=x;⟨o,e,c,d⟩
theorem TupN.new(h:Heap)(its:Array Value):TupN (h.push { cls := .type "tuple",data := .seq its }) h.objs.size its:=⟨_,Heap.get?_push_size _ rfl,rfl,⟨_,rfl⟩,rfl⟩
section
variable(P:Program)(w:World)
def ObjOk(H:Hp)(h:Heap)(a:Addr):HO->Prop
 | .lst xs=>xs.length<=sizeLine/\∃(its:List Value) (n:Nat),Vals xs its/\h.get? a=some { cls := .type "list",data := .seq its.toArray n }
 | .tup xs=>xs.length<=sizeLine/\∃its:List Value,Vals xs its/\TupN h a its.toArray
 | .dK kvs=>kvs.length<=sizeLine/\(a == sysModules)=false/\∃vs,KV kvs vs/\h.DictOf (Xg P w) a vs
 | .dT kvs=>kvs.length<=sizeLine/\(a == sysModules)=false/\∃xs:List (List Key×Addr×Value),
  Paired (λ(p:List Key×V) (q:List Key×Addr×Value)=>p.1=q.1/\H q.2.1=some (.tup (p.1.map kV))/\RelV p.2 q.2.2) kvs xs /\
  ∃o es ep,h.get? a=some o/\o.ExactDict/\o.data = .dict es ep/\es.toList=xs.map (entryOfKey (tupleKind (Xg P w)))/\(xs.map (·.1)).Nodup
 | .set S n=>h.SetOf (intKind P w) a S n
 | .ins C dx fs=>H dx=some (.own a)/\fs.length<=1000/\dx≠a/\h.get? a=some (instObj C dx) /\
  ∃mA,h.Ns1 dx mA/\(∀f,RelO (fs.lookup f) (mA f))/\PySem.Within mA (fs.map (·.1))
 | .own _=>∃o,h.get? a=some o
 | .xd fs=>∃mA,h.Ns1 a mA/\∀f,RelO (fs.lookup f) (mA f)
 | .rng lo hi=>∃t u v,h.get? a=some { cls := .type "range",data := .fields #[.int lo t,.int hi u,.int 1 v] }
 | .frz o u=>h.get? a=some o/\ObjOk H h a u
 | .tbl ps=>h.get? a=some { cls := .none,data := .fields ps }
 | .met f x=>h.get? a=some (PySem.W.methodObj (.ref f) (.ref x))
 | .ext φ=>φ h/\(∃o,h.get? a=some o)/\∀h1 h2:Heap,φ h1->(∀o,h1.get? a=some o->h2.get? a=some o)->φ h2
def HOk(H:Hp)(h:Heap):Prop:=∀a o,H a=some o->ObjOk P w H h a o
end
section
variable{P:Program}{w:World}{H H':Hp}{h h':Heap}{a:Addr}{o:HO}
theorem ObjOk.lt(x:ObjOk P w H h a o):a<h.objs.size:=by
 cases o with
 |lst xs=>obtain⟨_,_,_,_,e⟩:=x;exact Heap.lt_size e
 |tup xs=>obtain⟨_,_,_,p⟩:=x;exact p.tup.lt
 |dK kvs=>obtain⟨_,_,_,_,o,_,_,e,_⟩:=x;exact Heap.lt_size e
 |dT kvs=>obtain⟨_,_,_,_,o,_,_,e,_⟩:=x;exact Heap.lt_size e
 |set S n=>obtain⟨o,_,_,_,e,_⟩:=x;exact Heap.lt_size e
 |ins C dx fs=>obtain⟨_,_,_,e,_⟩:=x;exact Heap.lt_size e
 |own y=>obtain⟨_,e⟩:=x;exact Heap.lt_size e
 |xd fs=>obtain⟨_,⟨_,_,_,e,_⟩,_⟩:=x;exact Heap.lt_size e
 |rng lo hi=>obtain⟨_,_,_,e⟩:=x;exact Heap.lt_size e
 |frz ob u=>obtain⟨e,_⟩:=x;exact Heap.lt_size e
 |tbl ps=>exact Heap.lt_size (show h.get? a=some _ from x)
 |met f y=>exact Heap.lt_size (show h.get? a=some _ from x)
 |ext φ=>obtain⟨_,⟨_,e⟩,_⟩:=x;exact Heap.lt_size e
theorem Paired.mapP{α β:Type}{F G:α->β->Prop}:∀{l₁:List α}{l₂:List β},Paired F l₁ l₂->(∀a b,F a b->G a b)->Paired G l₁ l₂
 |_,_,.nil,_ => .nil
 |_,_,.cons r t,f => .cons (f _ _ r) (Paired.mapP t f)
theorem ObjOk.stay (x:ObjOk P w H h a o) (k:∀b u,(b=a\/H b=some (.own a))->h.get? b=some u->h'.get? b=some u)
 (ho:∀b,H b=some (.own a)->H' b=some (.own a)) (ht:∀b xs,H b=some (.tup xs)->H' b=some (.tup xs)):ObjOk P w H' h' a o:=by
 induction o with
 |lst xs=>obtain⟨z,its,n,r,e⟩:=x;exact⟨z,its,n,r,k _ _ (.inl rfl) e⟩
 |tup xs=>obtain⟨z,its,r,ob,e,c⟩:=x;exact⟨z,its,r,ob,k _ _ (.inl rfl) e,c⟩
 |dK kvs=>obtain⟨z,y,vs,r,ob,es,ep,e,c⟩:=x;exact⟨z,y,vs,r,ob,es,ep,k _ _ (.inl rfl) e,c⟩
 |dT kvs=>
  obtain⟨z,y,xs,r,ob,es,ep,e,c⟩:=x;exact⟨z,y,xs,Paired.mapP r λp q z=>⟨z.1,ht _ _ z.2.1,z.2.2⟩,ob,es,ep,k _ _ (.inl rfl) e,c⟩
 |set S n=>obtain⟨ob,es,ep,t,e,c⟩:=x;exact⟨ob,es,ep,t,k _ _ (.inl rfl) e,c⟩
 |ins C dx fs=>
  obtain⟨d,z,ne,e,mA,⟨od,es,ep,e2,c⟩,r⟩:=x;exact⟨ho _ d,z,ne,k _ _ (.inl rfl) e,mA,⟨od,es,ep,k _ _ (.inr d) e2,c⟩,r⟩
 |own y=>obtain⟨ob,e⟩:=x;exact⟨ob,k _ _ (.inl rfl) e⟩
 |xd fs=>obtain⟨mA,⟨od,es,ep,e,c⟩,r⟩:=x;exact⟨mA,⟨od,es,ep,k _ _ (.inl rfl) e,c⟩,r⟩
 |rng lo hi=>obtain⟨t,u,v,e⟩:=x;exact⟨t,u,v,k _ _ (.inl rfl) e⟩
 |frz ob u ih=>obtain⟨e,q⟩:=x;exact⟨k _ _ (.inl rfl) e,ih q⟩
 |tbl ps=>
  have e:h.get? a=some { cls := .none,data := .fields ps }:=x;show h'.get? a=some { cls := .none,data := .fields ps };exact k a _ (.inl rfl) e
 |met f y=>
  have e:h.get? a=some (PySem.W.methodObj (.ref f) (.ref y)):=x;show h'.get? a=some (PySem.W.methodObj (.ref f) (.ref y));exact k a _ (.inl rfl) e
 |ext φ=>obtain⟨p,⟨o,e⟩,st⟩:=x;exact⟨st _ _ p λo q=>k _ _ (.inl rfl) q,⟨o,k _ _ (.inl rfl) e⟩,st⟩
theorem HOk.lt(x:HOk P w H h)(e:H a=some o):a<h.objs.size:=(x a o e).lt
theorem HOk.fresh(x:HOk P w H h)(e:h.objs.size<=a):H a=none:=by
 cases q:H a with
 |none=>rfl
 |some u=>exact absurd (Nat.lt_of_lt_of_le (x.lt q) e) (Nat.lt_irrefl _)
theorem HOk.kept(x:HOk P w H h)(k:∀b u,h.get? b=some u->h'.get? b=some u):HOk P w H h':=λa o e=>
 (x a o e).stay (λb u _ q=>k b u q) (λ_ q=>q) λ_ _ q=>q
theorem HOk.laid(x:HOk P w H h)(k:∀b u,h.get? b=some u->h'.get? b=some u)(hp:h.objs.size<=a)(new:ObjOk P w (upd H a o) h' a o):HOk P w (upd H a o) h':=λb u e=>by
 have hn:=x.fresh hp
 by_cases hb:b=a
 · subst hb;rw [ZN]at e;cases e;exact new
 · rw [ZI hb]at e
   exact(x b u e).stay (λc v _ q=>k c v q) (λc q=>by rw [ZI (YZ q hn)];exact q) λc xs q=>by rw [ZI (YZ q hn)];exact q
end
def Rd(H:Hp)(a:Addr)(u:HO):Prop:=H a=some u\/∃o,H a=some (.frz o u)
theorem Rd.ok{P:Program}{w:World}{H:Hp}{h:Heap}{a:Addr}{u:HO}(r:Rd H a u)(x:HOk P w H h):ObjOk P w H h a u:=by
 rcases r with r|⟨o,r⟩
 · exact x a u r
 · obtain⟨_,q⟩:=x a _ r
   exact q
def Mut:Option HO->Prop
 |some (.lst _)=>True
 |some (.dK _)=>True
 |some (.dT _)=>True
 |some (.set _ _)=>True
 |some (.ins _ _ _)=>True
 |some (.ext _)=>True
 |_=>False
section
variable{P:Program}{w:World}{H:Hp}{h h':Heap}{x e:Addr}{o':HO}
theorem HOk.write (ok:HOk P w H h) (mu:Mut (H x)) (he:e=x\/H e=some (.own x)) (k:∀b u,b≠e->h.get? b=some u->h'.get? b=some u) (heo:∃u,h'.get? e=some u)
 (new:ObjOk P w (upd H x o') h' x o'):HOk P w (upd H x o') h':=λb u q=>by
 have nown:∀c y,H c=some (.own y)->c≠x:=λc y r z=>by subst z;rw [r]at mu;exact mu
 have ntup:∀c xs,H c=some (.tup xs)->c≠x:=λc xs r z=>by subst z;rw [r]at mu;exact mu
 by_cases hb:b=x
 · subst hb;rw [ZN]at q;cases q;exact new
 · rw [ZI hb]at q
   by_cases hbe:b=e
   · have q' : H b = some (.own x) := by
      rcases he with z|z
      · exact absurd (hbe.trans z) hb
      · rw [hbe];exact z
     rw [q]at q';cases q';obtain⟨v,hv⟩:=heo;exact⟨v,by rw [hbe];exact hv⟩
   · refine(ok b u q).stay (λc v hc r=>k c v ?_ r) (λc r=>by rw [ZI (nown c b r)];exact r) λc xs r=>by rw [ZI (ntup c xs r)];exact r
     rcases hc with rfl|hc
     · exact hbe
     · rintro rfl
       rcases he with z|z
       · exact nown c b hc z
       · rw [hc]at z;cases z;exact hb rfl
end
structure Un(fs ex:List Addr)(H H':Hp)(h h':Heap):Prop where
 keep:∀b o,h.get? b=some o->H b=none->b∉fs->b∉ex->h'.get? b=some o
 slot:∀b o,h.get? b=some o->H b=none->b∈fs->b∉ex->∃sl,h'.get? b=some { o with slots:=sl }
 free:∀b o,h.get? b=some o->H b=none->b∉ex->H' b=none
 there:∀b o,h.get? b=some o->b∉ex->∃o',h'.get? b=some o'
 tups:∀b xs,H b=some (.tup xs)->H' b=some (.tup xs)
 frzs:∀b o u,H b=some (.frz o u)->H' b=some (.frz o u)
 tbls:∀b ps,H b=some (.tbl ps)->∃more,H' b=some (.tbl (ps++more))
section
variable{fs fs' ex ex':List Addr}{H H1 H2:Hp}{h h1 h2 h':Heap}{a x e:Addr}{o:HO}
theorem Un.any(u:Un fs ex H H1 h h1){b:Addr}{ob:Obj}(q:h.get? b=some ob)(n:H b=none)(hx:b∉ex):∃sl,h1.get? b=some { ob with slots:=sl }:=by
 by_cases hb:b∈fs
 · exact u.slot b ob q n hb hx
 · exact⟨ob.slots,u.keep b ob q n hb hx⟩
theorem Un.trans(a:Un fs ex H H1 h h1)(b:Un fs ex H1 H2 h1 h2):Un fs ex H H2 h h2 where
 keep:=λc ob q n hc hx=>b.keep c ob (a.keep c ob q n hc hx) (a.free c ob q n hx) hc hx
 slot:=λc ob q n hc hx=>by
  obtain⟨sl,e1⟩:=a.slot c ob q n hc hx;obtain⟨sl',e2⟩:=b.slot c _ e1 (a.free c ob q n hx) hc hx;exact⟨sl',e2⟩
 free:=λc ob q n hx=>by
  obtain⟨o',e1⟩:=a.there c ob q hx;exact b.free c o' e1 (a.free c ob q n hx) hx
 there:=λc ob q hx=>by
  obtain⟨o',e1⟩:=a.there c ob q hx;exact b.there c o' e1 hx
 tups:=λc xs q=>b.tups c xs (a.tups c xs q)
 frzs:=λc ob xs q=>b.frzs c ob xs (a.frzs c ob xs q)
 tbls:=λc ps q=>by
  obtain⟨m1,e1⟩:=a.tbls c ps q;obtain⟨m2,e2⟩:=b.tbls c _ e1;exact⟨m1++m2,by rw [e2,Array.append_assoc]⟩
theorem Un.kept(k:∀b u,h.get? b=some u->h'.get? b=some u):Un fs ex H H h h':=
 ⟨λb ob q _ _ _=>k b ob q,λb ob q _ _ _=>⟨ob.slots,k b ob q⟩,λ_ _ _ n _=>n,λb ob q _=>⟨ob,k b ob q⟩,λ_ _ q=>q,λ_ _ _ q=>q,λ_ ps q=>⟨#[],by rw [q];simp⟩⟩
theorem Un.refl:Un fs ex H H h h:=Un.kept λ_ _ q=>q
theorem Un.laid(k:∀b u,h.get? b=some u->h'.get? b=some u)(hp:h.objs.size<=a)(hn:H a=none):Un fs ex H (upd H a o) h h' where
 keep:=λb u q _ _ _=>k b u q
 slot:=λb u q _ _ _=>⟨u.slots,k b u q⟩
 free:=λb u q n _=>by rw [ZI (Nat.ne_of_lt (Nat.lt_of_lt_of_le (Heap.lt_size q) hp))];exact n
 there:=λb u q _=>⟨u,k b u q⟩
 tups:=λb xs q=>by rw [ZI (YZ q hn)];exact q
 frzs:=λb u xs q=>by rw [ZI (YZ q hn)];exact q
 tbls:=λb ps q=>⟨#[],by rw [ZI (YZ q hn),q];simp⟩
theorem Un.write(mu:Mut (H x))(he:e=x\/H e=some (.own x))(k:∀b u,b≠e->h.get? b=some u->h'.get? b=some u)(heo:∃u,h'.get? e=some u):Un fs ex H (upd H x o) h h':=by
 have hx:∀b,H b=none->b≠x:=λb n z=>by subst z;rw [n]at mu;exact mu
 have hb:∀b,H b=none->b≠e:=λb n z=>by
  subst z;rcases he with r|r
  · exact hx b n r
  · rw [n]at r;cases r
 have hm:∀b u,H b=some u->¬Mut (some u)->b≠x:=λb u q nm z=>by subst z;rw [q]at mu;exact nm mu
 refine⟨λb u q n _ _=>k b u (hb b n) q,λb u q n _ _=>⟨u.slots,k b u (hb b n) q⟩,λb u q n _=>by rw [ZI (hx b n)];exact n,λb u q _ => ?_,
  λb xs q=>by rw [ZI (hm b _ q λz=>z)];exact q,λb u xs q=>by rw [ZI (hm b _ q λz=>z)];exact q,λb ps q=>⟨#[],by rw [ZI (hm b _ q λz=>z),q];simp⟩⟩
 by_cases hbe:b=e
 · subst hbe;exact heo
 · exact⟨u,k b u hbe q⟩
end
def trk(h:Heap)(H:Hp):List Addr:=(List.range h.objs.size).filter λa=>(H a).isSome
def Vs(h:Heap)(H:Hp):Heap:=PySem.W.hideAll h (trk h H)
theorem Zej(h:Heap)(H:Hp):(Vs h H).objs.size=h.objs.size:=PySem.W.hideAll_size _ _
theorem Ze2{h:Heap}{H:Hp}{b:Addr}{o:Obj}(e:h.get? b=some o)(n:H b=none):(Vs h H).get? b=some o:=
 PySem.W.hideAll_get _ e λhm=>by
  have q:(H b).isSome=true:=(List.mem_filter.mp hm).2;rw [n]at q;simp at q
theorem Zg5{h:Heap}{H:Hp}{b:Addr}{o:Obj}(e:(Vs h H).get? b=some o):h.get? b=some o/\H b=none:=by
 have e':h.get? b=some o:=PySem.W.of_hideAll (trk h H) e;refine⟨e',?_⟩;cases q:H b with
 |none=>rfl
 |some x=>
  have hm:b∈trk h H:=List.mem_filter.mpr ⟨List.mem_range.mpr (Heap.lt_size e'),by simp [q]⟩;have z:(Vs h H).get? b=none:=PySem.W.hideAll_none (trk h H) hm;rw [z]at e;cases e
end L2
namespace L2
open PySem PySem.Spec PyProof.Rows
structure Mod(K:PySem.W.Frag)(mg:Str->Option Value)(base:Heap):Prop where
 kin:K.In base
 glob:base.Ns mainGlobals mg
 blt:∃mb,base.Ns builtinsNs mb/\∀x:Str,x ≠ "__name__" -> mb x=bootBuiltins x
 nolimit:base.NoLimit
structure Cx where
 prog:Program
 w:World
 K:PySem.W.Frag
 mg:Str->Option Value
 base:Heap
 A:Around
 N:List Str
 s₀:Shared
 H₀:Hp
 env:Env
 outer:List Env
 stack:List Env
 ex:List Addr
 fn:Str->Bool
 calm:Bool
 pn:List (Addr×Obj)
 xe:Value->Shared->Prop
def frs(l:List Env):List Addr:=l.filterMap (·.frame)
abbrev Cx.fs(X:Cx):List Addr:=frs X.outer
def Vis(sc:Scope)(x:Str):Prop:=sc.names.lookup x=some .local\/sc.names.lookup x=some .cell\/sc.names.lookup x=some .free
def Loc(sc:Scope)(x:Str):Prop:=sc.names.lookup x=some .local\/sc.names.lookup x=some .cell
def Zk3(env:Env)(h:Heap)(m:Str->Option Value)(x:Str)(u:Value):Prop:=
 (env.kindOf x=some .local/\m x=some u)\/((env.kindOf x=some .cell\/env.kindOf x=some .free)/\∃c,env.cells.lookup x=some c/\h.IsCell c (some u))
structure Cx.Ok(X:Cx):Prop where
 mod:Mod X.K X.mg X.base
 kind:X.env.scope.kind = .function
 glob:X.env.globals=mainGlobals
 blt:X.env.builtins=builtinsNs
 above:X.s₀.heap.objs.size<=X.env.locals
 inj:∀x y c,X.env.cells.lookup x=some c->X.env.cells.lookup y=some c->x=y
 has:∀x,(X.env.kindOf x=some .cell\/X.env.kindOf x=some .free)->∃c,X.env.cells.lookup x=some c
 cab:∀x c,X.fn x=true->X.env.cells.lookup x=some c->X.s₀.heap.objs.size<=c
 hd:X.calm=true->X.A.handled=none
 frames:X.A.frames=some X.stack
 stk:X.stack=X.outer\/(X.stack=X.env::X.outer/\X.env.frame=some X.env.locals)
 exf:∀b∈X.ex,b≠X.env.locals/\∀x c,X.env.cells.lookup x=some c->c≠b
 bs:∀b o,X.base.get? b=some o->X.s₀.heap.get? b=some o/\X.H₀ b=none
 bsz:X.base.objs.size<=X.s₀.heap.objs.size
 noex:∀b o,X.base.get? b=some o->b∉X.ex
 exfs:∀b∈X.ex,b∉X.fs
 funs:X.s₀.heap.FunFrames X.base X.outer
 frf:∀b∈X.fs,X.H₀ b=none
structure Inv(X:Cx)(pins:List (Addr×Obj))(σ:List (Option V))(H:Hp)(s:Shared):Prop where
 ok:X.Ok
 os:s.os=X.s₀.os
 bare:AllBare s.gens
 base:Un X.fs X.ex X.H₀ H X.s₀.heap s.heap
 loc:∃m,s.heap.Ns X.env.locals m/\∀(i:Nat)(x:Str)(v:V),X.N[i]? = some x->σ[i]? = some (some v)->Vis X.env.scope x->∃u,RelV v u/\Zk3 X.env s.heap m x u
 cell:∀x c,X.env.cells.lookup x=some c->∃v,s.heap.IsCell c v
 free:H X.env.locals=none
 freeC:∀x c,X.env.cells.lookup x=some c->H c=none
 pin:∀p∈X.pn++pins,s.heap.get? p.1=some p.2/\H p.1=none/\p.1≠X.env.locals/\p.1∉X.fs/\∀v,p.2.data ≠ .cell v
 hok:HOk X.prog X.w H s.heap
 len:σ.length=X.N.length
section
variable{X:Cx}{pins:List (Addr×Obj)}{σ:List (Option V)}{H H':Hp}{s:Shared}{h':Heap}
theorem Cx.Ok.nofr(ok:X.Ok){b:Addr}{o:Obj}(e:X.base.get? b=some o):b∉X.fs:=λhb=>by
 have:=(ok.funs.mem hb).1;rw [e]at this;cases this
theorem Inv.bs(I:Inv X pins σ H s):∀b o,X.base.get? b=some o->s.heap.get? b=some o/\H b=none:=λb o e=>
 ⟨I.base.keep b o (I.ok.bs b o e).1 (I.ok.bs b o e).2 (I.ok.nofr e) (I.ok.noex b o e),I.base.free b o (I.ok.bs b o e).1 (I.ok.bs b o e).2 (I.ok.noex b o e)⟩
theorem Inv.bk(I:Inv X pins σ H s):∀b o,X.base.get? b=some o->s.heap.get? b=some o:=λb o e=>(I.bs b o e).1
theorem Inv.mod(I:Inv X pins σ H s):Mod X.K X.mg X.base:=I.ok.mod
theorem Inv.kIn(I:Inv X pins σ H s):X.K.In s.heap:=I.ok.mod.kin.keeps I.bk
theorem Inv.nolimit(I:Inv X pins σ H s):s.heap.NoLimit:=I.ok.mod.nolimit.keeps I.bk
theorem Inv.fr(I:Inv X pins σ H s):∃m,Fr X.base X.env.locals s.heap m:=
 let⟨m,hn,_⟩:=I.loc
 ⟨m,hn,I.bk,Nat.le_trans I.ok.bsz I.ok.above⟩
theorem Inv.lt(I:Inv X pins σ H s):X.env.locals<s.heap.objs.size:=let⟨_,hn,_⟩:=I.loc;hn.lt
theorem Inv.sz(I:Inv X pins σ H s):X.s₀.heap.objs.size<=s.heap.objs.size:=Nat.le_trans I.ok.above (Nat.le_of_lt I.lt)
theorem Inv.nofs(I:Inv X pins σ H s){a:Addr}(h:s.heap.objs.size<=a):a∉X.fs:=λhb=>by
 obtain⟨_,o,ho,_⟩:=I.ok.funs.mem hb;exact absurd (Nat.lt_of_lt_of_le (Heap.lt_size ho) (Nat.le_trans I.sz h)) (Nat.lt_irrefl _)
theorem Inv.cne(I:Inv X pins σ H s):∀x c,X.env.cells.lookup x=some c->c≠X.env.locals:=λx c e z=>by
 obtain⟨v,o,ho,hd⟩:=I.cell x c e;obtain⟨m,⟨o',es,ep,ho',hd',_⟩,_⟩:=I.loc;rw [z,ho']at ho;cases ho;rw [hd']at hd;cases hd
theorem Inv.funs(I:Inv X pins σ H s):s.heap.FunFrames X.base X.outer:=by
 have all:∀(l:List Env),(∀b∈frs l,b∈X.fs)->X.s₀.heap.FunFrames X.base l->s.heap.FunFrames X.base l:=by
  intro l
  induction l with
  |nil=>intro _ _;trivial
  |cons env r ih=>
   intro hs hl;obtain⟨hk,⟨L,o,hf,hn,ho,hd⟩,hr⟩:=hl;have hL:L∈X.fs:=hs L (by unfold frs;rw [List.filterMap_cons,hf];exact List.mem_cons_self);obtain⟨sl,e⟩:=I.base.slot L o ho (I.ok.frf L hL) hL λz=>I.ok.exfs L z hL
   exact⟨hk,⟨L,_,hf,hn,e,hd⟩,ih (λb hb=>hs b (by unfold frs;rw [List.filterMap_cons,hf];exact List.mem_cons_of_mem _ hb)) hr⟩
 exact all X.outer (λ_ hb=>hb) I.ok.funs
theorem Inv.stack(I:Inv X pins σ H s):s.heap.FunFrames X.base X.stack:=by
 rcases I.ok.stk with e|⟨e,hf⟩
 · rw [e];exact I.funs
 · rw [e]
   obtain⟨m,hn,_⟩:=I.loc;refine .cons (by rw [I.ok.kind];decide) hf hn ?_ I.funs;exact Heap.get?_none_of_le (Nat.le_trans I.ok.bsz I.ok.above)
theorem Inv.stkSub(I:Inv X pins σ H s):∀b∈frs X.stack,b∈X.env.locals::X.fs:=λb hb=>by
 rcases I.ok.stk with e|⟨e,hf⟩
 · rw [e]at hb;exact List.mem_cons_of_mem _ hb
 · rw [e]at hb
   unfold frs at hb;rw [List.filterMap_cons,hf]at hb;exact hb
theorem Inv.stkFree(I:Inv X pins σ H s):∀b∈frs X.stack,H b=none:=λb hb=>by
 rcases List.mem_cons.mp (I.stkSub b hb)with e|hb
 · rw [e];exact I.free
 · obtain⟨_,o,ho,_⟩:=I.ok.funs.mem hb
   exact I.base.free b o ho (I.ok.frf b hb) λz=>I.ok.exfs b z hb
theorem Inv.step {g':Array GenState} {t':Nat} {d':Drawn} {ch:List Addr} (I:Inv X pins σ H s)
 (hch:∀b∈ch,(b∈X.ex\/X.s₀.heap.objs.size<=b)/\b≠X.env.locals/\(∀x c,X.env.cells.lookup x=some c->c≠b)/\∀p∈X.pn++pins,p.1≠b)
 (keep:∀b o,b≠X.env.locals->b∉X.fs->b∉ch->s.heap.get? b=some o->H b=none->h'.get? b=some o)
 (slot:∀b o,b≠X.env.locals->b∈X.fs->b∉ch->s.heap.get? b=some o->H b=none->∃sl,h'.get? b=some { o with slots:=sl }) (free:∀b o,b∉ch->s.heap.get? b=some o->H b=none->H' b=none)
 (there:∀b o,b∉ch->s.heap.get? b=some o->∃o',h'.get? b=some o')
 (tups:∀b xs,H b=some (.tup xs)->H' b=some (.tup xs)) (frzs:∀b o u,H b=some (.frz o u)->H' b=some (.frz o u)) (tbls:∀b ps,H b=some (.tbl ps)->∃more,H' b=some (.tbl (ps++more)))
 (ns:∀m,s.heap.Ns X.env.locals m->h'.Ns X.env.locals m) (hok:HOk X.prog X.w H' h') (hg:AllBare g') :
 Inv X pins σ H' { s with heap:=h',gens:=g',drawn:=d',toks:=t' }:=by
 have neL:∀b o,X.s₀.heap.get? b=some o->b≠X.env.locals:=λb o e=>Nat.ne_of_lt (Nat.lt_of_lt_of_le (Heap.lt_size e) I.ok.above)
 have neC:∀b o,X.s₀.heap.get? b=some o->b∉X.ex->b∉ch:=λb o e hx hb=>by
  rcases(hch b hb).1 with z|z
  · exact hx z
  · exact absurd (Nat.lt_of_lt_of_le (Heap.lt_size e) z) (Nat.lt_irrefl _)
 have cellK:∀x c,X.env.cells.lookup x=some c->∀v,s.heap.IsCell c v->h'.IsCell c v:=λx c e v ⟨o,ho,hd⟩=>by
  have nch:c∉ch:=λz=>(hch c z).2.2.1 x c e rfl
  by_cases hc:c∈X.fs
  · obtain⟨sl,q⟩:=slot c o (I.cne x c e) hc nch ho (I.freeC x c e)
    exact⟨_,q,hd⟩
  · exact⟨o,keep c o (I.cne x c e) hc nch ho (I.freeC x c e),hd⟩
 refine⟨I.ok,I.os,hg,⟨λb o e n hb hx => ?_,λb o e n hb hx => ?_,λb o e n hx => ?_,λb o e hx => ?_,λb xs e=>tups b xs (I.base.tups b xs e),λb o xs e=>frzs b o xs (I.base.frzs b o xs e),λb ps e => ?_⟩,?_,λx c e => ?_,?_,λx c e => ?_,λp hp => ?_,hok,I.len⟩
 · exact keep b o (neL b o e) hb (neC b o e hx) (I.base.keep b o e n hb hx) (I.base.free b o e n hx)
 · obtain⟨sl,e1⟩:=I.base.slot b o e n hb hx
   obtain⟨sl',e2⟩:=slot b _ (neL b o e) hb (neC b o e hx) e1 (I.base.free b o e n hx);exact⟨sl',e2⟩
 · obtain⟨o',e1⟩:=I.base.there b o e hx
   exact free b o' (neC b o e hx) e1 (I.base.free b o e n hx)
 · obtain⟨o',e1⟩:=I.base.there b o e hx
   exact there b o' (neC b o e hx) e1
 · obtain⟨m1,e1⟩:=I.base.tbls b ps e
   obtain⟨m2,e2⟩:=tbls b _ e1;exact⟨m1++m2,by rw [e2,Array.append_assoc]⟩
 · obtain⟨m,hn,hl⟩:=I.loc
   refine⟨m,ns m hn,λi x v e1 e2 e3 => ?_⟩;obtain⟨u,r,l⟩:=hl i x v e1 e2 e3;refine⟨u,r,?_⟩;rcases l with l|⟨k,c,e,z⟩
   · exact .inl l
   · exact .inr ⟨k,c,e,cellK x c e _ z⟩
 · obtain⟨v,z⟩:=I.cell x c e
   exact⟨v,cellK x c e v z⟩
 · obtain⟨m,⟨o,_,_,ho,_⟩,_⟩:=I.loc
   exact free _ o (λz=>(hch _ z).2.1 rfl) ho I.free
 · obtain⟨v,o,ho,hd⟩:=I.cell x c e
   exact free c o (λz=>(hch c z).2.2.1 x c e rfl) ho (I.freeC x c e)
 · obtain⟨e,n,ne,nf,d⟩:=I.pin p hp
   have nch:p.1∉ch:=λz=>(hch p.1 z).2.2.2 p hp rfl
   exact⟨keep p.1 p.2 ne nf nch e n,free p.1 p.2 nch e n,ne,nf,d⟩
theorem Inv.un{t':Nat}(I:Inv X pins σ H s)(u:Un X.fs [] H H' s.heap h')(hok:HOk X.prog X.w H' h'):Inv X pins σ H' { s with heap:=h',toks:=t' }:=by
 obtain⟨m,⟨o,es,ep,ho,r⟩,_⟩:=id I.loc;obtain⟨sl,hL⟩:=u.any ho I.free (by simp)
 exact I.step (g':=s.gens) (d':=s.drawn) (ch:=[]) (λ_ z=>nomatch z) (λb o _ hb _ e n=>u.keep b o e n hb (by simp)) (λb o _ hb _ e n=>u.slot b o e n hb (by simp)) (λb o _ e n=>u.free b o e n (by simp)) (λb o _ e=>u.there b o e (by simp)) u.tups u.frzs u.tbls (λm' hm=>by
  obtain⟨o',es',ep',ho',r'⟩:=hm;rw [ho]at ho';cases ho';exact⟨_,es',ep',hL,r'⟩) hok I.bare
theorem Inv.call {g':Array GenState} {t':Nat} {d':Drawn} {ch:List Addr} (I:Inv X pins σ H s) (u:Un (frs X.stack) ch H H' s.heap h') (hok:HOk X.prog X.w H' h') (hg:AllBare g')
 (hch:∀b∈ch,(b∈X.ex\/X.s₀.heap.objs.size<=b)/\b≠X.env.locals/\(∀x c,X.env.cells.lookup x=some c->c≠b)/\∀p∈X.pn++pins,p.1≠b) :
 Inv X pins σ H' { s with heap:=h',gens:=g',drawn:=d',toks:=t' }:=by
 obtain⟨m,⟨o,es,ep,ho,r⟩,_⟩:=id I.loc;obtain⟨sl,hL⟩:=u.any ho I.free λz=>(hch _ z).2.1 rfl
 exact I.step (ch:=ch) hch (λb o hL hb hc e n=>u.keep b o e n (λz=>(List.mem_cons.mp (I.stkSub b z)).elim hL hb) hc) (λb o _ _ hc e n=>u.any e n hc) (λb o hc e n=>u.free b o e n hc) (λb o hc e=>u.there b o e hc) u.tups u.frzs u.tbls (λm' hm=>by
  obtain⟨o',es',ep',ho',r'⟩:=hm;rw [ho]at ho';cases ho';exact⟨_,es',ep',hL,r'⟩) hok hg
theorem Inv.turned {t':Nat} {it:Addr} (I:Inv X pins σ H s) (k:∀b o,b≠it->s.heap.get? b=some o->h'.get? b=some o) (hn:H it=none) (hL:it≠X.env.locals)
 (h1:it∈X.ex\/X.s₀.heap.objs.size<=it) (h2:∀x c,X.env.cells.lookup x=some c->c≠it) (h3:∀p∈X.pn++pins,p.1≠it):Inv X pins σ H { s with heap:=h',toks:=t' }:=by
 have nit:∀b u,H b=some u->b≠it:=λb u e z=>by rw [z,hn]at e;cases e
 refine I.step (g':=s.gens) (d':=s.drawn) (ch:=[it]) (λb hb => ?_) (λb o _ _ hc e _=>k b o (λz=>hc (by simp [z])) e) (λb o _ _ hc e _=>⟨o.slots,k b o (λz=>hc (by simp [z])) e⟩) (λ_ _ _ _ n=>n)
  (λb o hc e=>⟨o,k b o (λz=>hc (by simp [z])) e⟩) (λ_ _ e=>e) (λ_ _ _ e=>e) (λb ps e=>⟨#[],by rw [e];simp⟩) (λm hm => ?_) (λb u e => ?_) I.bare
 · have e:b=it:=by simpa using hb
   subst e;exact⟨h1,hL,h2,h3⟩
 · obtain⟨o,es,ep,ho,r⟩:=hm
   exact⟨o,es,ep,k _ o (Ne.symm hL) ho,r⟩
 · refine(I.hok b u e).stay (λc v hc q=>k c v ?_ q) (λ_ q=>q) λ_ _ q=>q
   rcases hc with z|z
   · rw [z];exact nit b u e
   · exact nit c _ z
theorem Inv.tok(I:Inv X pins σ H s)(t:Nat):Inv X pins σ H { s with toks:=t }:=I.un (h':=s.heap) (t':=t) Un.refl I.hok
theorem Inv.kept{t':Nat}(I:Inv X pins σ H s)(k:∀b u,s.heap.get? b=some u->h'.get? b=some u):Inv X pins σ H { s with heap:=h',toks:=t' }:=I.un (Un.kept k) (I.hok.kept k)
theorem Inv.laid{a:Addr}{o:HO}{t':Nat}(I:Inv X pins σ H s)(k:∀b u,s.heap.get? b=some u->h'.get? b=some u)(hp:s.heap.objs.size<=a)(new:ObjOk X.prog X.w (upd H a o) h' a o) :
 Inv X pins σ (upd H a o) { s with heap:=h',toks:=t' }:=I.un (Un.laid k hp (I.hok.fresh hp)) (I.hok.laid k hp new)
theorem Inv.write {x e:Addr} {o:HO} {t':Nat} (I:Inv X pins σ H s) (mu:Mut (H x)) (he:e=x\/H e=some (.own x)) (k:∀b u,b≠e->s.heap.get? b=some u->h'.get? b=some u) (heo:∃u,h'.get? e=some u)
 (new:ObjOk X.prog X.w (upd H x o) h' x o):Inv X pins σ (upd H x o) { s with heap:=h',toks:=t' }:=I.un (Un.write mu he k heo) (I.hok.write mu he k heo new)
theorem Inv.pins_of{pins':List (Addr×Obj)}(I:Inv X pins σ H s)(h:∀p∈pins',s.heap.get? p.1=some p.2/\H p.1=none/\p.1≠X.env.locals/\p.1∉X.fs/\∀v,p.2.data ≠ .cell v):Inv X pins' σ H s:=
 ⟨I.ok,I.os,I.bare,I.base,I.loc,I.cell,I.free,I.freeC,λp hp=>(List.mem_append.mp hp).elim (λz=>I.pin p (List.mem_append_left _ z)) (h p),I.hok,I.len⟩
theorem Zcj{N:List Str}(hN:N.Nodup){i j:Nat}{x:Str}(a:N[i]? = some x)(b:N[j]? = some x):i=j:=by
 obtain⟨h1,e1⟩:=List.getElem?_eq_some_iff.mp a;obtain⟨h2,e2⟩:=List.getElem?_eq_some_iff.mp b;exact(List.getElem_inj hN).mp (e1.trans e2.symm)
theorem Zbd {M:Model} {A:Around} {E:Value->Shared->Prop} {i:Nat} {x:Str} {v:V} {u:Value} {Q:Unit->Shared->Prop} (I:Inv X pins σ H s) (hN:X.N.Nodup) (hi:X.N[i]? = some x) (hx:Loc X.env.scope x) (r:RelV v u)
 (h:∀s',Inv X pins (σ.set i (some v)) H s'->(∃a,Heap.SameBut a s.heap s'.heap/\(a=X.env.locals\/X.env.cells.lookup x=some a))->Q () s') (hf:X.fn x=true\/X.env.scope.names.lookup x=some .local:=by first|exact .inl rfl|exact .inr rfl|assumption):wpAny M A (storeName X.env x u) Q E s:=by
 obtain⟨m,hn,hl⟩:=id I.loc;have hcls:(X.env.scope.kind == .class||(X.env.scope.kind == .module&&X.env.locals != X.env.globals))=false:=by rw [I.ok.kind];rfl
 have hiσ:i<σ.length:=by rw [I.len];exact(List.getElem?_eq_some_iff.mp hi).1
 have cne:=I.cne
 have tracked:∀{a:Addr}{h':Heap},(∃o,s.heap.get? a=some o/\H a=none)->Heap.SameBut a s.heap h'->HOk X.prog X.w H h':=λ{a h'} ha hs b ob e=>by
  obtain⟨_,_,hfree⟩:=ha;refine(I.hok b ob e).stay (λc w' hc q=>(hs.2 c ?_).trans q) (λ_ q=>q) λ_ _ q=>q
  rintro rfl
  rcases hc with rfl|hc
  · rw [hfree]at e;cases e
  · rw [hfree]at hc;cases hc
 rcases hx with hk|hk
 · refine wpAny_storeName_local hk hn (λh' hn' hs => ?_) hcls
   obtain⟨oL,_,_,hoL,_⟩:=id hn;refine h _ ⟨I.ok,I.os,I.bare,⟨λb o e n hb hx => ?_,λb o e n hb hx => ?_,I.base.free,λb o e hx => ?_,I.base.tups,I.base.frzs,I.base.tbls⟩,⟨_,hn',λj y v' e1 e2 e3 => ?_⟩,λy c e => ?_,I.free,I.freeC,λp hp => ?_,tracked ⟨oL,hoL,I.free⟩ hs,by simpa using I.len⟩ ⟨_,hs,.inl rfl⟩
   · exact(hs.2 b (Nat.ne_of_lt (Nat.lt_of_lt_of_le (Heap.lt_size e) I.ok.above))).trans (I.base.keep b o e n hb hx)
   · obtain⟨sl,e1⟩:=I.base.slot b o e n hb hx
     exact⟨sl,(hs.2 b (Nat.ne_of_lt (Nat.lt_of_lt_of_le (Heap.lt_size e) I.ok.above))).trans e1⟩
   · obtain⟨o',e1⟩:=I.base.there b o e hx
     exact⟨o',(hs.2 b (Nat.ne_of_lt (Nat.lt_of_lt_of_le (Heap.lt_size e) I.ok.above))).trans e1⟩
   · by_cases hj:j=i
     · subst hj
       rw [hi]at e1;cases e1;rw [List.getElem?_set_self hiσ]at e2;cases e2;exact⟨u,r,.inl ⟨hk,by simp⟩⟩
     · rw [List.getElem?_set_ne (Ne.symm hj)]at e2
       obtain⟨u',r',q⟩:=hl j y v' e1 e2 e3;refine⟨u',r',?_⟩;rcases q with⟨k,e⟩|⟨k,c,e,z⟩
       · refine .inl ⟨k,?_⟩
         have:y≠x:=λe=>hj (Zcj hN e1 (e▸hi))
         simp [this,e]
       · exact .inr ⟨k,c,e,z.sameBut hs (cne y c e)⟩
   · obtain⟨w',z⟩:=I.cell y c e
     exact⟨w',z.sameBut hs (cne y c e)⟩
   · obtain⟨e,n,ne,nf,d⟩:=I.pin p hp
     exact⟨(hs.2 p.1 ne).trans e,n,ne,nf,d⟩
 · have hfn : X.fn x = true := by
    rcases hf with z|z
    · exact z
    · rw [z]at hk;cases hk
   obtain⟨c,hc⟩:=I.ok.has x (.inl hk);obtain⟨w',z⟩:=I.cell x c hc;refine wpAny_storeName_cell I.ok.kind hk hc z (λh' hc' hs => ?_);obtain⟨oc,hoc,hocd⟩:=id z;refine h { s with heap:=h' } ⟨I.ok,I.os,I.bare,⟨λb o e n hb hx => ?_,λb o e n hb hx => ?_,I.base.free,λb o e hx => ?_,I.base.tups,I.base.frzs,I.base.tbls⟩,⟨m,hn.sameBut hs (Ne.symm (cne x c hc)),λj y v' e1 e2 e3 => ?_⟩,λy c' e => ?_,I.free,I.freeC,λp hp => ?_,tracked ⟨oc,hoc,I.freeC x c hc⟩ hs,by simpa using I.len⟩ ⟨c,hs,.inr hc⟩
   · exact(hs.2 b (Nat.ne_of_lt (Nat.lt_of_lt_of_le (Heap.lt_size e) (I.ok.cab x c hfn hc)))).trans (I.base.keep b o e n hb hx)
   · obtain⟨sl,e1⟩:=I.base.slot b o e n hb hx
     exact⟨sl,(hs.2 b (Nat.ne_of_lt (Nat.lt_of_lt_of_le (Heap.lt_size e) (I.ok.cab x c hfn hc)))).trans e1⟩
   · obtain⟨o',e1⟩:=I.base.there b o e hx
     exact⟨o',(hs.2 b (Nat.ne_of_lt (Nat.lt_of_lt_of_le (Heap.lt_size e) (I.ok.cab x c hfn hc)))).trans e1⟩
   · by_cases hj:j=i
     · subst hj
       rw [hi]at e1;cases e1;rw [List.getElem?_set_self hiσ]at e2;cases e2;exact⟨u,r,.inr ⟨.inl hk,c,hc,hc'⟩⟩
     · rw [List.getElem?_set_ne (Ne.symm hj)]at e2
       obtain⟨u',r',q⟩:=hl j y v' e1 e2 e3;refine⟨u',r',?_⟩;rcases q with q|⟨k,c',e,z'⟩
       · exact .inl q
       · refine .inr ⟨k,c',e,z'.sameBut hs ?_⟩
         rintro rfl
         exact hj (Zcj hN e1 (I.ok.inj _ _ _ e hc▸hi))
   · by_cases hcc:c'=c
     · subst hcc;exact⟨_,hc'⟩
     · obtain⟨w2,z2⟩:=I.cell y c' e
       exact⟨w2,z2.sameBut hs hcc⟩
   · obtain⟨e,n,ne,nf,d⟩:=I.pin p hp
     refine⟨(hs.2 p.1 ?_).trans e,n,ne,nf,d⟩;intro q;rw [q,hoc]at e;have q':oc=p.2:=Option.some.inj e;exact d w' (by rw [<-q'];exact hocd)
theorem Zck {M:Model} {A:Around} {E:Value->Shared->Prop} {i:Nat} {x:Str} {v:V} {u:Value} {Q:Unit->Shared->Prop} (I:Inv X pins σ H s) (hN:X.N.Nodup) (hi:X.N[i]? = some x) (hx:Loc X.env.scope x) (r:RelV v u)
 (h:∀s',Inv X pins (σ.set i (some v)) H s'->Q () s') (hf:X.fn x=true\/X.env.scope.names.lookup x=some .local:=by first|exact .inl rfl|exact .inr rfl|assumption):wpAny M A (storeName X.env x u) Q E s:=
 Zbd I hN hi hx r (λs' I' _=>h s' I') hf
theorem Inv.call' {s':Shared} {ch:List Addr} (I:Inv X pins σ H s) (ho:s'.os=s.os) (u:Un (frs X.stack) ch H H' s.heap s'.heap) (hok:HOk X.prog X.w H' s'.heap) (hg:AllBare s'.gens)
 (hch:∀b∈ch,(b∈X.ex\/X.s₀.heap.objs.size<=b)/\b≠X.env.locals/\(∀x c,X.env.cells.lookup x=some c->c≠b)/\∀p∈X.pn++pins,p.1≠b):Inv X pins σ H' s':=by
 obtain⟨h',g',d',t',o'⟩:=s';have e:o'=s.os:=ho;subst e;exact I.call (g':=g') (t':=t') (d':=d') u hok hg hch
end
abbrev XK:=Value->Option Addr->Hp->Prop
abbrev St:=List (Option V)
abbrev VK:=V->Hp->Prop
abbrev TE:=St->Hp->VK->Prop
abbrev TT:=St->Hp->(Bool->Hp->Prop)->Prop
abbrev TA:=St->Hp->(List V->Hp->Prop)->Prop
structure Ends where
 nx:St->Hp->Prop
 rt:VK
 bk:St->Hp->Prop:=λ_ _=>False
 ct:St->Hp->Prop:=λ_ _=>False
abbrev TS:=Ends->St->Hp->Prop
def EP(X:Cx)(pins:List (Addr×Obj))(σ:St)(Q:VK)(u:Value)(s':Shared):Prop:=∃v H',Inv X pins σ H' s'/\RelV v u/\Q v H'
def TP(X:Cx)(pins:List (Addr×Obj))(σ:St)(Q:Bool->Hp->Prop)(b:Bool)(s':Shared):Prop:=∃H',Inv X pins σ H' s'/\Q b H'
def AP(X:Cx)(pins:List (Addr×Obj))(σ:St)(Q:List V->Hp->Prop)(us:List Value)(s':Shared):Prop:=∃vs H',Inv X pins σ H' s'/\Vals vs us/\Q vs H'
def SP(X:Cx)(pins:List (Addr×Obj))(D:Ends)(f:Flow)(s':Shared):Prop:=
 match f with
 | .next=>∃σ' H',Inv X pins σ' H' s'/\D.nx σ' H'
 | .brk=>∃σ' H',Inv X pins σ' H' s'/\D.bk σ' H'
 | .cont=>∃σ' H',Inv X pins σ' H' s'/\D.ct σ' H'
 | .ret u=>∃v σ' H',Inv X pins σ' H' s'/\RelV v u/\D.rt v H'
def PE(X:Cx)(e:Expr)(t:TE):Prop:=
 ∀(pins:List (Addr×Obj))(s:Shared)(σ:St)(H:Hp)(Q:VK),Inv X pins σ H s->t σ H Q->wpAny (model X.prog X.w) X.A (eval e X.env) (EP X pins σ Q) X.xe s
def PT(X:Cx)(e:Expr)(t:TT):Prop:=
 ∀(pins:List (Addr×Obj))(s:Shared)(σ:St)(H:Hp)(Q:Bool->Hp->Prop),Inv X pins σ H s->t σ H Q->wpAny (model X.prog X.w) X.A (isTrue e X.env (eval e X.env)) (TP X pins σ Q) X.xe s
def PW(X:Cx)(e:Expr)(t:TT):Prop:=
 ∀(whole:Sem Value)(pins:List (Addr×Obj))(s:Shared)(σ:St)(H:Hp)(Q:Bool->Hp->Prop),Inv X pins σ H s->t σ H Q->wpAny (model X.prog X.w) X.A (isTrue e X.env whole) (TP X pins σ Q) X.xe s
theorem PW.pt{X:Cx}{e:Expr}{t:TT}(h:PW X e t):PT X e t:=h _
def PA(X:Cx)(es:List Expr)(t:TA):Prop:=
 ∀(pos:Pos)(pins:List (Addr×Obj))(s:Shared)(σ:St)(H:Hp)(Q:List V->Hp->Prop),Inv X pins σ H s->t σ H Q->wpAny (model X.prog X.w) X.A (spliced (backTo pos (starEach es X.env))) (AP X pins σ Q) X.xe s
def PS(X:Cx)(st:Stmt)(t:TS):Prop:=
 ∀(pins:List (Addr×Obj))(s:Shared)(σ:St)(H:Hp)(D:Ends),Inv X pins σ H s->t D σ H->wpAny (model X.prog X.w) X.A (exec st X.env) (SP X pins D) X.xe s
def PSs(X:Cx)(st:List Stmt)(t:TS):Prop:=
 ∀(pins:List (Addr×Obj))(s:Shared)(σ:St)(H:Hp)(D:Ends),Inv X pins σ H s->t D σ H->wpAny (model X.prog X.w) X.A (execs st X.env) (SP X pins D) X.xe s
theorem thn{α:Type}{t:Sem α}{Q Q':α->Shared->Prop}{M:Model}{A:Around}{E:Value->Shared->Prop}{s:Shared}(h:wpAny M A t Q E s)(hQ:∀a s,Q a s->Q' a s):wpAny M A t Q' E s:=wpAny_mono h hQ λ_ _ x=>x
end L2
namespace L2
open PySem PySem.Spec PyProof.Rows
section
variable{X:Cx}
def Yy(i:Nat):TE:=λσ H Q=>∃v,σ[i]? = some (some v)/\Q v H
def tC(v:V):TE:=λ_ H Q=>Q v H
theorem ZiR {i:Nat} {x:Str} {pos:Pos} (hN:X.N[i]? = some x) (hv:Vis X.env.scope x) (hd:(x == ("__debug__" : Str))=false:=by decide) (hcd:(x == ("__classdict__" : Str))=false:=by decide):PE X (.Name x pos) (Yy i):=by
 intro pins s σ H Q I h;obtain⟨v,e,h⟩:=h;obtain⟨m,hn,hl⟩:=I.loc;obtain⟨u,r,l⟩:=hl i x v hN e hv;have fin:EP X pins σ Q u s:=⟨v,H,I,r,h⟩
 rcases l with⟨hk,hm⟩|⟨hk,c,hc,hcell⟩
 · exact wpAny_Name (wpAny_loadName_local I.ok.kind hk hn hm fin) hd
 · rcases hk with hk|hk
   · exact wpAny_Name (wpAny_loadName_cell I.ok.kind hk hc hcell fin) hd
   · exact wpAny_Name (wpAny_loadName_free I.ok.kind hk hc hcell fin hcd) hd
theorem Zx{i j pos}:PE X (.Constant (.int i) j pos) (tC (.int i)):=λ_ _ _ H _ I h=>wpAny_Constant_int ⟨.int i,H,I.tok _,⟨_,rfl⟩,h⟩
theorem Vt{b j pos}:PE X (.Constant (.bool b) j pos) (tC (.bl b)):=λ_ _ _ H _ I h=>Constant_bool ⟨.bl b,H,I,rfl,h⟩
theorem ZiS{j pos}:PE X (.Constant .none j pos) (tC .non):=λ_ _ _ H _ I h=>Constant_none ⟨.non,H,I,rfl,h⟩
theorem ZiT{x j pos}:PE X (.Constant (.str x) j pos) (tC (.str x)):=λ_ _ _ H _ I h=>Calls.Constant_str ⟨.str x,H,I.tok _,⟨_,rfl⟩,h⟩
def Gl(X:Cx)(x:Str):Prop:=X.env.kindOf x=some .globalImplicit
theorem JM {E:Value->Shared->Prop} {pins:List (Addr×Obj)} {s:Shared} {σ:St} {H:Hp} {x:Str} {u:Value} {pos:Pos} {Q:Value->Shared->Prop} (I:Inv X pins σ H s) (hg:Gl X x) (hm:X.mg x=some u) (h:Q u s)
 (hd:(x == ("__debug__" : Str))=false:=by decide):wpAny (model X.prog X.w) X.A (eval (.Name x pos) X.env) Q E s:=
 Calls.Name_function_global I.ok.kind hg (Calls.loadGlobal_global (by rw [I.ok.glob];exact I.mod.glob.keeps I.bk) hm h) hd
theorem Va {E:Value->Shared->Prop} {pins:List (Addr×Obj)} {s:Shared} {σ:St} {H:Hp} {x:Str} {u:Value} {pos:Pos} {Q:Value->Shared->Prop} (I:Inv X pins σ H s) (hg:Gl X x) (hm:X.mg x=none) (hv:bootBuiltins x=some u) (h:Q u s)
 (hn:x ≠ "__name__" := by decide) (hd:(x == ("__debug__" : Str))=false:=by decide):wpAny (model X.prog X.w) X.A (eval (.Name x pos) X.env) Q E s:=by
 obtain⟨mb,h1,h2⟩:=I.mod.blt;exact Calls.Name_function_global I.ok.kind hg (Calls.loadGlobal_builtin (by rw [I.ok.glob];exact I.mod.glob.keeps I.bk) hm (by rw [I.ok.blt];exact h1.keeps I.bk) ((h2 x hn).trans hv) h) hd
theorem Zg6 {x:Str} {v:V} {u:Value} {pos:Pos} (hg:Gl X x) (hm:X.mg x=some u) (r:RelV v u) (hd:(x == ("__debug__" : Str))=false:=by decide):PE X (.Name x pos) (tC v):=
 λ_ _ _ H _ I h=>JM I hg hm ⟨v,H,I,r,h⟩ hd
theorem ZdD {x:Str} {v:V} {u:Value} {pos:Pos} (hg:Gl X x) (hm:X.mg x=none) (hv:bootBuiltins x=some u) (r:RelV v u) (hn:x ≠ "__name__" := by decide) (hd:(x == ("__debug__" : Str))=false:=by decide):PE X (.Name x pos) (tC v):=
 λ_ _ _ H _ I h=>Va I hg hm hv ⟨v,H,I,r,h⟩ hn hd
variable{a b:Expr}{ta tb:TE}{pos:Pos}
def PC(X:Cx)(op:CmpOp)(a b:Expr)(t:TE):Prop:=
 ∀(pins:List (Addr×Obj))(s:Shared)(σ:St)(H:Hp)(Q:VK),Inv X pins σ H s->t σ H Q ->
  wpAny (model X.prog X.w) X.A (eval a X.env) (λv s₁=>wpAny (model X.prog X.w) X.A (eval b X.env) (λu s₂=>wpAny (model X.prog X.w) X.A (compareOp op v u) (EP X pins σ Q) X.xe s₂) X.xe s₁) X.xe s
theorem Ze3(b:Expr){op:CmpOp}(h:op ≠ .In)(h2:op ≠ .NotIn):behindInMarks op b=false:=by
 have e1:(op == CmpOp.In)=false:=by cases op<;>first|rfl|exact absurd rfl h
 have e2:(op == CmpOp.NotIn)=false:=by cases op<;>first|rfl|exact absurd rfl h2
 cases b<;>simp [behindInMarks,e1,e2]
def Zk4(ta:TE):TE:=λσ H Q=>ta σ H λx H1=>Q (.bl (decide (x = .non))) H1
theorem RelV.none_iff{x:V}{v:Value}(r:RelV x v):(v == Value.none)=decide (x = .non):=by
 cases x with
 |non=>cases r;rfl
 |bl _=>cases r;rfl
 |int _=>obtain⟨t,rfl⟩:=r;rfl
 |str _=>obtain⟨t,rfl⟩:=r;rfl
 |byt _=>obtain⟨t,rfl⟩:=r;rfl
 |flt _=>obtain⟨t,rfl⟩:=r;rfl
 |ref _=>cases r;rfl
 |ty _=>cases r;rfl
theorem ZiU{j pos'}(ha:PE X a ta):PC X .Is a (.Constant .none j pos') (Zk4 ta):=by
 intro pins s σ H Q I h;refine thn (ha pins s σ H _ I h) λv s1 ⟨x,H1,I1,r1,q1⟩ => ?_
 exact Constant_none (is_none_gen ⟨.bl _,H1,I1,by rw [r1.none_iff];rfl,q1⟩)
def tB(t:TE):TT:=λσ H Q=>t σ H λx H1=>∃c,x = .bl c/\Q c H1
theorem Zf1{op:CmpOp}{t:TE}(h:PC X op a b t)(h1:behindInMarks op b=false:=by first|exact Ze3 _ (by decide) (by decide)|rfl):PT X (.Compare a [op] [b] pos) (tB t):=by
 intro pins s σ H Q I hw;refine wpAny_isTrue_Compare1 (thn (h pins s σ H _ I hw) λv s1 h1=>thn h1 λu s2 h2=>thn h2 λc s3 ⟨x,H1,I1,r1,q1⟩ => ?_) h1;obtain⟨d,rfl,q⟩:=q1;cases r1;exact wpAny_truthy_bool ⟨H1,I1,q⟩
theorem QH{e:Expr}{t:TE}(h:PE X e t)(he:∀whole,isTrue e X.env whole=(do let v <-whole;standAt e.pos;holding [v] (truthy v)):=by intro _;rfl):PT X e (tB t):=by
 intro pins s σ H Q I hw;refine isTrue_plain (thn (h pins s σ H _ I hw) λv s1 ⟨x,H1,I1,r1,q1⟩ => ?_) (he _);obtain⟨d,rfl,q⟩:=q1;cases r1;exact wpAny_truthy_bool ⟨H1,I1,q⟩
variable{tA tB':TT}{rest:List Expr}
def Zk5(t u:TT):TT:=λσ H Q=>t σ H λc H1=>if c=true then u σ H1 Q else Q false H1
def tOr(t u:TT):TT:=λσ H Q=>t σ H λc H1=>if c=true then Q true H1 else u σ H1 Q
def Zk6(t:TT):TT:=λσ H Q=>t σ H λc H1=>Q (!c) H1
theorem JN(ha:PT X a tA):PW X (.BoolOp .And [a] pos) tA:=by
 intro wh pins s σ H Q I h;refine isTrue_and (thn (ha pins s σ H Q I h) λc s1 e => ?_);cases c with
 |true=>exact isTrue_and_nil e
 |false=>exact e
theorem JO(ha:PT X a tA):PW X (.BoolOp .Or [a] pos) tA:=by
 intro wh pins s σ H Q I h;refine isTrue_or (thn (ha pins s σ H Q I h) λc s1 e => ?_);cases c with
 |false=>exact isTrue_or_nil e
 |true=>exact e
theorem QI(ha:PT X a tA)(hb:PW X (.BoolOp .And (b::rest) pos) tB'):PW X (.BoolOp .And (a::b::rest) pos) (Zk5 tA tB'):=by
 intro wh pins s σ H Q I h;refine isTrue_and (thn (ha pins s σ H _ I h) λc s1 ⟨H1,I1,q1⟩ => ?_);cases c with
 |true=>exact hb wh pins s1 σ H1 Q I1 q1
 |false=>exact⟨H1,I1,q1⟩
theorem QJ(ha:PT X a tA)(hb:PW X (.BoolOp .Or (b::rest) pos) tB'):PW X (.BoolOp .Or (a::b::rest) pos) (tOr tA tB'):=by
 intro wh pins s σ H Q I h;refine isTrue_or (thn (ha pins s σ H _ I h) λc s1 ⟨H1,I1,q1⟩ => ?_);cases c with
 |true=>exact⟨H1,I1,q1⟩
 |false=>exact hb wh pins s1 σ H1 Q I1 q1
theorem Zf2(ha:PT X a tA):PT X (.UnaryOp .Not a pos) (Zk6 tA):=by
 intro pins s σ H Q I h;exact isTrue_not (ha pins s σ H (λc H1=>Q (!c) H1) I h)
def Zia(ta tb:TE):TE:=λσ H Q=>ta σ H λx H1=>∃c,x = .bl c/\if c=true then tb σ H1 Q else Q (.bl false) H1
theorem ZiV{op}{t:TE}(h:PE X a t):PE X (.BoolOp op [a] pos) t:=λpins s σ H Q I hw=>BoolOp_one (h pins s σ H Q I hw)
theorem Zf3(ha:PE X a ta)(hb:PE X (.BoolOp .And (b::rest) pos) tb):PE X (.BoolOp .And (a::b::rest) pos) (Zia ta tb):=by
 intro pins s σ H Q I h;refine BoolOp_and (thn (ha pins s σ H _ I h) λv s1 ⟨x,H1,I1,r1,q1⟩ => ?_);obtain⟨c,rfl,q1⟩:=q1;cases r1;refine wpAny_truthy_bool ?_;cases c with
 |true=>exact hb pins s1 σ H1 Q I1 q1
 |false=>exact⟨.bl false,H1,I1,rfl,q1⟩
def tIf(t:TT)(ta tb:TE):TE:=λσ H Q=>t σ H λc H1=>if c=true then ta σ H1 Q else tb σ H1 Q
theorem Ze4{c:Expr}(hc:PT X c tA)(ha:PE X a ta)(hb:PE X b tb):PE X (.IfExp c a b pos) (tIf tA ta tb):=by
 intro pins s σ H Q I h;refine wpAny_IfExp (thn (hc pins s σ H _ I h) λd s1 ⟨H1,I1,q1⟩ => ?_);cases d with
 |true=>exact ha pins s1 σ H1 Q I1 q1
 |false=>exact hb pins s1 σ H1 Q I1 q1
end
end L2
namespace L2
open PySem PySem.Spec PyProof.Rows
def SqL(K:PySem.W.Frag)(H:Hp)(a:Addr)(xs:List V):Prop:=
 Rd H a (.lst xs) \/
  ∃(o:Obj) (its:Array Value) (n:Nat),K.lookup a=some o/\o.cls = .type "list" /\ o.dict=none/\o.data = .seq its n/\its.size<=sizeLine/\Vals xs its.toList
def SqT(K:PySem.W.Frag)(H:Hp)(a:Addr)(xs:List V):Prop:=
 Rd H a (.tup xs) \/
  ∃(o:Obj) (its:Array Value) (n:Nat),K.lookup a=some o/\o.cls = .type "tuple" /\ o.data = .seq its n/\its.size<=sizeLine/\Vals xs its.toList
def ZlC:Value->Option V
 | .none=>some .non
 | .bool b=>some (.bl b)
 | .int i _=>some (.int i)
 | .str x _=>some (.str x)
 | .bytes b _=>some (.byt b)
 | .float b _=>some (.flt b)
 | .ref a=>some (.ref a)
 | .type n=>some (.ty n)
 |_=>none
theorem RelV.abs{x:V}{u:Value}(r:RelV x u):ZlC u=some x:=by
 cases x with
 |non=>cases r;rfl
 |bl _=>cases r;rfl
 |int _=>obtain⟨t,rfl⟩:=r;rfl
 |str _=>obtain⟨t,rfl⟩:=r;rfl
 |byt _=>obtain⟨t,rfl⟩:=r;rfl
 |flt _=>obtain⟨t,rfl⟩:=r;rfl
 |ref _=>cases r;rfl
 |ty _=>cases r;rfl
theorem RelV.inj{x y:V}{u:Value}(r:RelV x u)(q:RelV y u):x=y:=Option.some.inj (r.abs.symm.trans q.abs)
theorem Vals.inj:∀{xs ys:List V}{us:List Value},Vals xs us->Vals ys us->xs=ys
 |_,_,_,.nil,.nil=>rfl
 |_,_,_,.cons r t,.cons r' t'=>by rw [r.inj r',Vals.inj t t']
section
variable{X:Cx}{pins:List (Addr×Obj)}{σ:St}{H:Hp}{s:Shared}{a:Addr}{xs ys:List V}
theorem SqL.of{K:PySem.W.Frag}(h:H a=some (.lst xs)):SqL K H a xs := .inl (.inl h)
theorem SqT.of{K:PySem.W.Frag}(h:H a=some (.tup xs)):SqT K H a xs := .inl (.inl h)
theorem Inv.list(I:Inv X pins σ H s)(h:SqL X.K H a xs):∃its:List Value,Vals xs its/\PlainL s.heap a its.toArray/\xs.length<=sizeLine:=by
 rcases h with h|⟨o,its,n,hk,hc,hd,hs,hz,r⟩
 · obtain⟨z,its,n,r,e⟩:=h.ok I.hok
   exact⟨its,r,⟨_,n,e,rfl,rfl,rfl⟩,z⟩
 · refine⟨its.toList,r,⟨o,n,I.kIn a o hk,hc,hd,by simpa using hs⟩,?_⟩
   have e:=r.length;simp only [Array.length_toList]at e;omega
theorem Inv.tuple(I:Inv X pins σ H s)(h:SqT X.K H a xs):∃its:List Value,Vals xs its/\IsTup s.heap a its.toArray/\xs.length<=sizeLine:=by
 rcases h with h|⟨o,its,n,hk,hc,hs,hz,r⟩
 · obtain⟨z,its,r,p⟩:=h.ok I.hok
   exact⟨its,r,p.tup,z⟩
 · refine⟨its.toList,r,⟨o,I.kIn a o hk,hc,n,by simpa using hs⟩,?_⟩
   have e:=r.length;simp only [Array.length_toList]at e;omega
theorem Inv.list_inj(I:Inv X pins σ H s)(h:SqL X.K H a xs)(h':SqL X.K H a ys):xs=ys:=by
 obtain⟨its,r,⟨o,n,e,_,_,d⟩,_⟩:=I.list h;obtain⟨its',r',⟨o',n',e',_,_,d'⟩,_⟩:=I.list h';rw [e]at e';cases e';rw [d]at d';injection d' with d1 _
 have:its=its':=by simpa using congrArg Array.toList d1
 subst this;exact r.inj r'
theorem Inv.tuple_inj(I:Inv X pins σ H s)(h:SqT X.K H a xs)(h':SqT X.K H a ys):xs=ys:=by
 obtain⟨its,r,⟨o,e,_,n,d⟩,_⟩:=I.tuple h;obtain⟨its',r',⟨o',e',_,n',d'⟩,_⟩:=I.tuple h';rw [e]at e';cases e';rw [d]at d';injection d' with d1 _
 have:its=its':=by simpa using congrArg Array.toList d1
 subst this;exact r.inj r'
end
abbrev Cx.wish(X:Cx)(E:Value->Shared->Prop):Cx:={ X with xe:=E }
abbrev Cx.nox(X:Cx):Cx:=X.wish λ_ _=>False
theorem Cx.Ok.wish{X:Cx}(ok:X.Ok)(E:Value->Shared->Prop):(X.wish E).Ok:=
 ⟨ok.mod,ok.kind,ok.glob,ok.blt,ok.above,ok.inj,ok.has,ok.cab,ok.hd,ok.frames,ok.stk,ok.exf,ok.bs,ok.bsz,ok.noex,ok.exfs,ok.funs,ok.frf⟩
theorem Cx.Ok.unwish{X:Cx}{E:Value->Shared->Prop}(ok:(X.wish E).Ok):X.Ok:=
 ⟨ok.mod,ok.kind,ok.glob,ok.blt,ok.above,ok.inj,ok.has,ok.cab,ok.hd,ok.frames,ok.stk,ok.exf,ok.bs,ok.bsz,ok.noex,ok.exfs,ok.funs,ok.frf⟩
section
variable{X:Cx}{pins:List (Addr×Obj)}{σ:St}{H:Hp}{s:Shared}{E:Value->Shared->Prop}
theorem Inv.wish(I:Inv X pins σ H s)(E:Value->Shared->Prop):Inv (X.wish E) pins σ H s:=⟨I.ok.wish E,I.os,I.bare,I.base,I.loc,I.cell,I.free,I.freeC,I.pin,I.hok,I.len⟩
theorem Inv.unwish(I:Inv (X.wish E) pins σ H s):Inv X pins σ H s:=⟨I.ok.unwish,I.os,I.bare,I.base,I.loc,I.cell,I.free,I.freeC,I.pin,I.hok,I.len⟩
theorem SP.unwish{D:Ends}{f:Flow}{s':Shared}(h:SP (X.wish E) pins D f s'):SP X pins D f s':=by
 cases f with
 |next=>obtain⟨σ',H',I,q⟩:=h;exact⟨σ',H',I.unwish,q⟩
 |brk=>obtain⟨σ',H',I,q⟩:=h;exact⟨σ',H',I.unwish,q⟩
 |cont=>obtain⟨σ',H',I,q⟩:=h;exact⟨σ',H',I.unwish,q⟩
 |ret u=>obtain⟨v,σ',H',I,r,q⟩:=h;exact⟨v,σ',H',I.unwish,r,q⟩
theorem PSs.nox{st:List Stmt}{t:TS}(h:PSs X.nox st t):PSs X st t:=λpins s σ H D I hw=>
 wpAny_mono (h pins s σ H D (I.wish _) hw) (λ_ _ q=>q.unwish) λ_ _ z=>False.elim z
end
section
variable{X:Cx}{st:Stmt}{rest:List Stmt}{t u:TS}{e:Expr}{te:TE}{pos:Pos}
def tNext:TS:=λD σ H=>D.nx σ H
def V7(t u:TS):TS:=λD σ H=>t { D with nx:=u D } σ H
theorem YN:PSs X [] tNext:=λ_ _ σ H _ I h=>wpAny_execs_nil ⟨σ,H,I,h⟩
theorem Zp(h1:PS X st t)(h2:PSs X rest u):PSs X (st::rest) (V7 t u):=by
 intro pins s σ H D I h;refine wpAny_execs_cons (thn (h1 pins s σ H { D with nx:=u D } I h) λf s1 q => ?_);cases f with
 |next=>
  obtain⟨σ',H',I',q⟩:=q;exact h2 pins s1 σ' H' D I' q
 |ret v=>exact q
 |brk=>exact q
 |cont=>exact q
theorem ZG(h1:PS X st t):PSs X [st] t:=by
 intro pins s σ H D I h;refine wpAny_execs_cons (thn (h1 pins s σ H D I h) λf s1 q => ?_);cases f with
 |next=>exact wpAny_execs_nil q
 |ret v=>exact q
 |brk=>exact q
 |cont=>exact q
theorem Inv.quiet{pins:List (Addr×Obj)}{σ:St}{H:Hp}{s:Shared}(I:Inv X pins σ H s):interactive X.env=false:=by simp [interactive,I.ok.kind]
def V8(te:TE):TS:=λD σ H=>te σ H λ_ H1=>D.nx σ H1
theorem XF(he:PE X e te)(hs:swapsWith e none pos.line X.env=pure false:=by rfl):PS X (.Expr e pos) (V8 te):=by
 intro pins s σ H D I h;exact wpAny_Expr_any (thn (he pins s σ H _ I h) λv s1 ⟨x,H1,I1,r1,q1⟩=>⟨σ,H1,I1,q1⟩) I.quiet hs
def JP(te:TE):TS:=λD σ H=>te σ H D.rt
theorem Z0(he:PE X e te):PS X (.Return (some e) pos) (JP te):=by
 intro pins s σ H D I h;exact wpAny_Return_some (thn (he pins s σ H _ I h) λv s1 ⟨x,H1,I1,r1,q1⟩=>⟨x,σ,H1,I1,r1,q1⟩)
def JQ(c:TT)(t u:TS):TS:=λD σ H=>c σ H λb H1=>if b=true then t D σ H1 else u D σ H1
theorem YO{c:Expr}{a b:List Stmt}{tc:TT}(hc:PT X c tc)(ha:PSs X a t)(hb:PSs X b u):PS X (.If c a b pos) (JQ tc t u):=by
 intro pins s σ H D I h;refine wpAny_If (thn (hc pins s σ H _ I h) λd s1 ⟨H1,I1,q1⟩ => ?_);cases d with
 |true=>exact ha pins s1 σ H1 D I1 q1
 |false=>exact hb pins s1 σ H1 D I1 q1
end
abbrev TG:=V->St->Hp->(St->Hp->Prop)->Prop
abbrev TGs:=List V->St->Hp->(St->Hp->Prop)->Prop
def PG(X:Cx)(target:Expr)(t:TG):Prop:=
 ∀(pins:List (Addr×Obj))(s:Shared)(σ:St)(H:Hp)(v:V)(u:Value)(Q:St->Hp->Prop),Inv X pins σ H s->RelV v u->t v σ H Q ->
  wpAny (model X.prog X.w) X.A (assign target X.env u) (λ_ s'=>∃σ' H',Inv X pins σ' H' s'/\Q σ' H') X.xe s
def PGs(X:Cx)(ts:List Expr)(t:TGs):Prop:=
 ∀(pins:List (Addr×Obj))(s:Shared)(σ:St)(H:Hp)(vs:List V)(us:List Value)(Q:St->Hp->Prop),Inv X pins σ H s->Vals vs us->t vs σ H Q ->
  wpAny (model X.prog X.w) X.A (assignInOrder ((assignEach ts X.env).map (·.2)) us) (λ_ s'=>∃σ' H',Inv X pins σ' H' s'/\Q σ' H') X.xe s
abbrev TSet:=V->V->V->Hp->(Hp->Prop)->Prop
def Zk7(X:Cx)(t:TSet):Prop:=
 ∀(pins:List (Addr×Obj))(s:Shared)(σ:St)(H:Hp)(o i v:V)(ov iv u:Value)(Q:Hp->Prop),Inv X pins σ H s->RelV o ov->RelV i iv->RelV v u->t o i v H Q ->
  wpAny (model X.prog X.w) X.A (setItem ov iv u) (λ_ s'=>∃H',Inv X pins σ H' s'/\Q H') X.xe s
section
variable{X:Cx}{pos:Pos}
def YU(i:Nat):TG:=λv σ H Q=>Q (σ.set i (some v)) H
theorem ZJ{i:Nat}{x:Str}(hN:X.N.Nodup)(hi:X.N[i]? = some x:=by rfl)(hx:Loc X.env.scope x:=by first|exact Or.inl rfl|exact Or.inr rfl)(hf:X.fn x=true\/X.env.scope.names.lookup x=some .local:=by first|exact .inl rfl|exact .inr rfl|assumption):PG X (.Name x pos) (YU i):=by
 intro pins s σ H v u Q I r h;exact wpAny_assign_Name (Zck I hN hi hx r (λs' I'=>⟨_,H,I',h⟩) hf)
def gNil:TGs:=λvs σ H Q=>vs=[]/\Q σ H
def Zib(t:TG)(u:TGs):TGs:=λvs σ H Q=>∃v r,vs=v::r/\t v σ H λσ' H'=>u r σ' H' Q
theorem UL:PGs X [] gNil:=by
 intro pins s σ H vs us Q I r h;obtain⟨e,h⟩:=h;subst e;cases r;exact assignInOrder_nil ⟨σ,H,I,h⟩
theorem Y8 {e:Expr} {es:List Expr} {t:TG} {u:TGs} (h1:PG X e t) (h2:PGs X es u)
 (hs:(assignEach (e::es) X.env).map (·.2)=assign e X.env::(assignEach es X.env).map (·.2):=by rfl):PGs X (e::es) (Zib t u):=by
 intro pins s σ H vs us Q I r h;obtain⟨v,vr,e1,h⟩:=h;subst e1;cases r with
 |cons r rr=>
  rw [hs];refine assignInOrder_cons (thn (h1 pins s σ H _ _ _ I r h) λ_ s1 ⟨σ1,H1,I1,q1⟩ => ?_);exact h2 pins s1 σ1 H1 _ _ Q I1 rr q1
def JR(K:PySem.W.Frag)(n:Nat)(t:TGs):TG:=λv σ H Q=>∃a xs,v = .ref a/\SqT K H a xs/\xs.length=n/\t xs σ H Q
theorem ZiW {es:List Expr} {k:Nat} {t:TGs} {n:Nat} (hc:X.calm=true) (h:PGs X es t)
 (hn:(assignEach es X.env).length=n:=by rfl) (hst:(assignEach es X.env).findIdx? (·.1)=none:=by rfl):PG X (.Tuple es k pos) (JR X.K n t):=by
 intro pins s σ H v u Q I r hw;obtain⟨a,xs,e1,hq,hl,hw⟩:=hw;subst e1;cases r;obtain⟨its,rv,ht,hz⟩:=I.tuple hq;refine assign_Tuple_tuple (I.ok.hd hc) ht (by simp [hn,<-hl,rv.length]) hst λh' hx => ?_
 have I1:Inv X pins σ H { s with heap:=h' }:=I.kept (t':=s.toks) λb o e=>hx b o (Nat.ne_of_lt (Heap.lt_size e)) e
 exact h pins _ σ H xs _ Q I1 (by simpa using rv) hw
def Zk8(to ti:TE)(t:TSet):TG:=λv σ H Q=>to σ H λo H1=>ti σ H1 λi H2=>t o i v H2 λH3=>Q σ H3
theorem JS {o i:Expr} {to ti:TE} {t:TSet} (ho:PE X o to) (hi:PE X i ti) (hs:Zk7 X t)
 (ha:∀v,assign (.Subscript o i pos) X.env v=(do
   let ov <-holding [v] (eval o X.env)
   let iv <-holding [v,ov] (eval i X.env)
   standAt pos
   holding [v,ov,iv] (setItem ov iv v)
   release [v,ov,iv] []):=by intro _;rfl):PG X (.Subscript o i pos) (Zk8 to ti t):=by
 intro pins s σ H v u Q I r h;rw [ha];refine wpAny_bind (wpAny_holding (thn (ho pins s σ H _ I h) λov s1 ⟨x,H1,I1,r1,q1⟩ => ?_));refine wpAny_bind (wpAny_holding (thn (hi pins s1 σ H1 _ I1 q1) λiv s2 ⟨y,H2,I2,r2,q2⟩ => ?_));refine wpAny_bind (wpAny_standAt (wpAny_bind (wpAny_holding (thn (hs pins s2 σ H2 x y v ov iv u _ I2 r1 r2 r q2) λ_ s3 ⟨H3,I3,q3⟩ => ?_))));exact wpAny_release ⟨σ,H3,I3,q3⟩
def XU(te:TE)(g:TG):TS:=λD σ H=>te σ H λx H1=>g x σ H1 D.nx
theorem UM {tg e:Expr} {te:TE} {g:TG} (he:PE X e te) (hg:PG X tg g) (hs:swapsWithSole [tg] e pos.line X.env=pure false:=by rfl) (hw:swappedStores [tg] e X.env=pure none:=by rfl)
 (h1:(assignEach [tg] X.env).map (·.2)=[assign tg X.env]:=by rfl):PS X (.Assign [tg] e pos) (XU te g):=by
 intro pins s σ H D I h;refine wpAny_Assign_stores (thn (he pins s σ H _ I h) λv s1 ⟨x,H1,I1,r1,q1⟩ => ?_) hs hw;rw [h1];exact thn (hg pins s1 σ H1 x v _ I1 r1 q1) λ_ s2 q=>q
theorem ZR{i:Nat}{x:Str}{e:Expr}{te:TE}{pos':Pos}(hN:X.N.Nodup)(hi:X.N[i]? = some x)(hx:Loc X.env.scope x)(he:PE X e te)(hs:swapsWith e (some (.Name x pos')) pos.line X.env=pure false:=by rfl)(hf:X.fn x=true\/X.env.scope.names.lookup x=some .local:=by first|exact .inl rfl|exact .inr rfl|assumption) :
 PS X (.Assign [.Name x pos'] e pos) (XU te (YU i)):=by
 intro pins s σ H D I h;refine wpAny_Assign_Name (thn (he pins s σ H _ I h) λv s1 ⟨y,H1,I1,r1,q1⟩ => ?_) hs;exact Zck I1 hN hi hx r1 (λs2 I2=>⟨_,H1,I2,q1⟩) hf
end
section
variable{X:Cx}{pos:Pos}
def JT(c:TT)(tb:TS):TS:=λD σ H=>∃W:Nat->St->Hp->Prop,(∃m,W m σ H)/\∀m σ H,W m σ H ->
 c σ H λb H1=>if b=true then ∃N:St->Hp->Prop,(∀σ' H',N σ' H'->∃m',m'<m/\W m' σ' H')/\tb { D with nx:=N,ct:=N,bk:=D.nx } σ H1 else D.nx σ H1
theorem Zcl{c:Expr}{body:List Stmt}{tc:TT}{tb:TS}(hp:PassesOwn (model X.prog X.w) X.A X.env X.xe)(hc:PT X c tc)(hb:PSs X body tb):PS X (.While c body [] pos) (JT tc tb):=by
 intro pins s σ H D I h;obtain⟨W,⟨m0,w0⟩,turn⟩:=h;refine wpAny_While (codeAny_whileLoop (λn s'=>∃σ' H',Inv X pins σ' H' s'/\W n σ' H') ?_ m0 ⟨σ,H,I,w0⟩)
 rintro n s1 ⟨σ1,H1,I1,w1⟩
 refine wpAny_passesOwn hp (thn (hc pins s1 σ1 H1 _ I1 (turn n σ1 H1 w1)) λb s2 ⟨H2,I2,q2⟩ => ?_);cases b with
 |true=>
  obtain⟨N,hN,q2⟩:=q2;rw [if_pos rfl];refine wpAny_passesOwn hp (thn (hb pins s2 σ1 H2 _ I2 q2) λf s3 q3 => ?_);cases f with
  |next=>
   obtain⟨σ3,H3,I3,n3⟩:=q3;obtain⟨m',hm,w3⟩:=hN σ3 H3 n3;exact⟨m',hm,σ3,H3,I3,w3⟩
  |cont=>
   obtain⟨σ3,H3,I3,n3⟩:=q3;obtain⟨m',hm,w3⟩:=hN σ3 H3 n3;exact⟨m',hm,σ3,H3,I3,w3⟩
  |brk=>exact q3
  |ret v=>exact q3
 |false=>
  rw [if_neg Bool.false_ne_true];exact wpAny_execs_nil ⟨σ1,H2,I2,q2⟩
end
structure It where
 go:Nat->Hp->Prop
 yld:Nat->Hp->V->Hp->Prop
 stop:Nat->Hp->Prop
def Xs(X:Cx)(pins:List (Addr×Obj))(H:Hp)(b:Addr):Prop:=
 H b=none/\b≠X.env.locals/\b∉X.fs/\(b∈X.ex\/X.s₀.heap.objs.size<=b)/\(∀x c,X.env.cells.lookup x=some c->c≠b)/\∀p∈X.pn++pins,p.1≠b
theorem Inv.fpOk{X:Cx}{pins:List (Addr×Obj)}{σ:St}{H H':Hp}{s:Shared}{b:Addr}(I:Inv X pins σ H s)(hb:s.heap.objs.size<=b)(hn:H' b=none):Xs X pins H' b:=by
 refine⟨hn,Nat.ne_of_gt (Nat.lt_of_lt_of_le I.lt hb),I.nofs hb,.inr (Nat.le_trans I.sz hb),λx c e z => ?_,λp hp z => ?_⟩
 · obtain⟨v,q⟩:=I.cell x c e
   exact absurd (Nat.lt_of_lt_of_le q.lt (by rw [z];exact hb)) (Nat.lt_irrefl _)
 · exact absurd (Nat.lt_of_lt_of_le (Heap.lt_size (I.pin p hp).1) (by rw [z];exact hb)) (Nat.lt_irrefl _)
structure Turn(P:Program)(w:World)(K:PySem.W.Frag)(tg:Expr)(J:It)(fp:List Addr)(it:Addr)(tn:Nat->Heap->Prop):Prop where
 mem:it∈fp
 obj:∀i h,tn i h->∀b∈fp,∃o,h.get? b=some o/\∀v,o.data ≠ .cell v
 keep:∀i h h',tn i h->(∀b∈fp,∀o,h.get? b=some o->h'.get? b=some o)->tn i h'
 item:∀(X:Cx),X.prog=P->X.w=w->X.K=K->X.calm=true->∀(i:Nat)(pins:List (Addr×Obj))(s:Shared)(σ:St)(H:Hp)(E:Value->Shared->Prop),Inv X pins σ H s->(∀b∈fp,Xs X pins H b)->tn i s.heap->J.go i H ->
  wpAny (model P w) X.A (pyNext (.ref it)) (λr s1=>∃u,r=some u /\
   wpAny (model P w) X.A (letOwnedTupleGo tg (.ref it) u) (λ_ s2=>∃x H',Inv X pins σ H' s2/\RelV x u/\J.yld i H x H'/\tn (i+1) s2.heap/\∀b∈fp,H' b=none) E s1) E s
 done:∀(X:Cx),X.prog=P->X.w=w->X.K=K->X.calm=true->∀(i:Nat)(pins:List (Addr×Obj))(s:Shared)(σ:St)(H:Hp)(E:Value->Shared->Prop),Inv X pins σ H s->(∀b∈fp,Xs X pins H b)->tn i s.heap->J.stop i H ->
  wpAny (model P w) X.A (pyNext (.ref it)) (λr s1=>r=none/\Inv X pins σ H s1) E s
 self:∀(A:Around)(i:Nat)(s:Shared)(Q:Value->Shared->Prop)(E:Value->Shared->Prop),tn i s.heap->Q (.ref it) s->wpAny (model P w) A (pyIter (.ref it)) Q E s
abbrev TI:=St->Hp->(It->Hp->Prop)->Prop
def PIE(X:Cx)(pins:List (Addr×Obj))(σ:St)(tg:Expr)(R:It->Hp->Prop)(itv:Value)(s2:Shared):Prop:=
 ∃(it:Addr) (fp:List Addr) (tn:Nat->Heap->Prop) (J:It) (H':Hp),itv = .ref it/\Inv X pins σ H' s2/\Turn X.prog X.w X.K tg J fp it tn/\tn 0 s2.heap/\(∀b∈fp,Xs X pins H' b)/\R J H'
def PI(X:Cx)(tg iter:Expr)(wi:TI):Prop:=
 ∀(pins:List (Addr×Obj))(s:Shared)(σ:St)(H:Hp)(R:It->Hp->Prop),Inv X pins σ H s->wi σ H R ->
  wpAny (model X.prog X.w) X.A (eval iter X.env) (λv s1=>wpAny (model X.prog X.w) X.A (pyIter v) (PIE X pins σ tg R) X.xe s1) X.xe s
theorem Qe {M:Model} {A:Around} {E:Value->Shared->Prop} {s:Shared} {tg:Expr} {it:Addr} {u:Value} {o:Obj} {n:String} {vs:Array Value} {Q:Unit->Shared->Prop} (ho:s.heap.get? it=some o) (hc:o.cls = .type n) (hd:o.data = .fields vs)
 (hn:["enumerate", "zip", "dict_itemiterator", "dict_reverseitemiterator", "odict_iterator", "itertools.zip_longest", "itertools.pairwise"].contains n=false) (hQ:Q () s):wpAny M A (letOwnedTupleGo tg (.ref it) u) Q E s:=by
 unfold letOwnedTupleGo
 cases tg<;>first
  |exact wpAny_pure hQ
  | (cases u <;> first
      |exact wpAny_pure hQ
      | (refine wpAny_bind (wpAny_load ho ?_)
         rw [hc,hd];show wpAny M A (if(["enumerate", "zip", "dict_itemiterator", "dict_reverseitemiterator", "odict_iterator", "itertools.zip_longest", "itertools.pairwise"].contains n&&vs[0]? == some (rawInt _))=true then _ else _) Q E s;rw [if_neg (by intro h;rw [hn,Bool.false_and]at h;cases h)];exact wpAny_pure hQ))
def Itl(K:PySem.W.Frag)(a:Addr):It:=
 ⟨λi H=>∃xs x,SqL K H a xs/\xs[i]? = some x,λi H x H'=>H'=H/\∀xs,SqL K H a xs->xs[i]? = some x,λi H=>∃xs,SqL K H a xs/\xs.length<=i⟩
def Itt(K:PySem.W.Frag)(a:Addr):It:=
 ⟨λi H=>∃xs x,SqT K H a xs/\xs[i]? = some x,λi H x H'=>H'=H/\∀xs,SqT K H a xs->xs[i]? = some x,λi H=>∃xs,SqT K H a xs/\xs.length<=i⟩
def Itr(lo:Int)(n:Nat):It:=⟨λi _=>i<n,λi H x H'=>H'=H/\x = .int (lo+i),λi _=>n<=i⟩
theorem Zek{P:Program}{w:World}{K:PySem.W.Frag}{tg:Expr}(a it:Addr):Turn P w K tg (Itl K a) [it] it (λi h=>h.IsListIter it a i) where
 mem:=by simp
 obj:=λi h st b hb=>by
  have e:b=it:=by simpa using hb
  subst e;obtain⟨o,e,c,d⟩:=st;exact⟨o,e,λv z=>by rw [d]at z;cases z⟩
 keep:=λi h h' st k=>st.at λo e=>k it (by simp) o e
 item:=by
  intro X hP hw hK hc i pins s σ H E I hf st hg;subst hP hw hK;obtain⟨xs,x,hq,hx⟩:=hg;obtain⟨its,rv,p,hz⟩:=I.list hq;obtain⟨u,hu,ru⟩:=rv.get hx;obtain⟨f0,f1,f2,f3,f4,f5⟩:=hf it (by simp);refine wpAny_pyNext_list_item st p.isList (x:=u) (by simpa using hu) λh' st' sb => ?_
  have I1:Inv X pins σ H { s with heap:=h' }:=I.turned (t':=s.toks) (λb o hb e=>(sb.2 b hb).trans e) f0 f1 f3 f4 f5;obtain⟨o,e,c,d⟩:=id st';exact⟨u,rfl,Qe (s:={ s with heap:=h' }) e c d (by decide) ⟨x,H,I1,ru,⟨rfl,λys hy=>by rw [I.list_inj hy hq];exact hx⟩,st',λb hb=>(hf b hb).1⟩⟩
 done:=by
  intro X hP hw hK hc i pins s σ H E I hf st hg;subst hP hw hK;obtain⟨xs,hq,hx⟩:=hg;obtain⟨its,rv,p,hz⟩:=I.list hq;obtain⟨f0,f1,f2,f3,f4,f5⟩:=hf it (by simp);have hl:=rv.length;exact wpAny_pyNext_list_end (I.ok.hd hc) st p.isList (by simp;omega) λh' eb=>⟨rfl,I.turned (t':=s.toks) (λb o hb e=>eb b o hb e) f0 f1 f3 f4 f5⟩
 self:=λ_ _ _ _ _ st h=>wpAny_pyIter_listiter st h
theorem ZaR{P:Program}{w:World}{K:PySem.W.Frag}{tg:Expr}(a it:Addr):Turn P w K tg (Itt K a) [it] it (λi h=>h.IsTupleIter it a i) where
 mem:=by simp
 obj:=λi h st b hb=>by
  have e:b=it:=by simpa using hb
  subst e;obtain⟨o,e,c,d⟩:=st;exact⟨o,e,λv z=>by rw [d]at z;cases z⟩
 keep:=λi h h' st k=>st.at λo e=>k it (by simp) o e
 item:=by
  intro X hP hw hK hc i pins s σ H E I hf st hg;subst hP hw hK;obtain⟨xs,x,hq,hx⟩:=hg;obtain⟨its,rv,p,hz⟩:=I.tuple hq;obtain⟨u,hu,ru⟩:=rv.get hx;obtain⟨f0,f1,f2,f3,f4,f5⟩:=hf it (by simp);refine wpAny_pyNext_tuple_item st (show s.heap.IsTuple a its.toArray from p) (x:=u) (by simpa using hu) λh' st' sb => ?_
  have I1:Inv X pins σ H { s with heap:=h' }:=I.turned (t':=s.toks) (λb o hb e=>(sb.2 b hb).trans e) f0 f1 f3 f4 f5;obtain⟨o,e,c,d⟩:=id st';exact⟨u,rfl,Qe (s:={ s with heap:=h' }) e c d (by decide) ⟨x,H,I1,ru,⟨rfl,λys hy=>by rw [I.tuple_inj hy hq];exact hx⟩,st',λb hb=>(hf b hb).1⟩⟩
 done:=by
  intro X hP hw hK hc i pins s σ H E I hf st hg;subst hP hw hK;obtain⟨xs,hq,hx⟩:=hg;obtain⟨its,rv,p,hz⟩:=I.tuple hq;obtain⟨f0,f1,f2,f3,f4,f5⟩:=hf it (by simp);have hl:=rv.length;exact wpAny_pyNext_tuple_end (I.ok.hd hc) st (show s.heap.IsTuple a its.toArray from p) (by simp;omega) λh' eb=>⟨rfl,I.turned (t':=s.toks) (λb o hb e=>eb b o hb e) f0 f1 f3 f4 f5⟩
 self:=λ_ _ _ _ _ st h=>wpAny_pyIter_tupleiter st h
theorem ZcW{P:Program}{w:World}{K:PySem.W.Frag}{tg:Expr}(it:Addr)(lo:Int)(n:Nat):Turn P w K tg (Itr lo n) [it] it (λi h=>IsRangeIter h it (lo+(i:Nat)*1) ((n:Int)-(i:Nat)) 1) where
 mem:=by simp
 obj:=λi h st b hb=>by
  have e:b=it:=by simpa using hb
  subst e
  exact⟨_,st,λv z=>by
   have z':Data.fields _=Data.cell v:=z;cases z'⟩
 keep:=λi h h' st k=>k it (by simp) _ st
 item:=by
  intro X hP hw hK hc i pins s σ H E I hf st hg;subst hP hw hK;obtain⟨f0,f1,f2,f3,f4,f5⟩:=hf it (by simp);have W:=Walks.range (prog:=X.prog) (w:=X.w) (I.ok.hd hc) it lo 1 n;refine W.item i s _ _ hg st λv h' tk hv st' kk => ?_
  obtain⟨t,rfl⟩:=hv;have I1:Inv X pins σ H { s with heap:=h',toks:=tk }:=I.turned (λb o hb e=>kk b o (by simpa using hb) e) f0 f1 f3 f4 f5;refine⟨_,rfl,Qe (s:={ s with heap:=h',toks:=tk }) (n:="range_iterator") st' rfl rfl (by decide) ⟨.int (lo+i),H,I1,⟨t,?_⟩,⟨rfl,rfl⟩,st',λb hb=>(hf b hb).1⟩⟩;rw [Int.mul_one]
 done:=by
  intro X hP hw hK hc i pins s σ H E I hf st hg;subst hP hw hK;obtain⟨f0,f1,f2,f3,f4,f5⟩:=hf it (by simp);exact wpAny_pyNext_range_end (I.ok.hd hc) st (by have:n<=i:=hg;omega) λh' eb=>⟨rfl,I.turned (t':=s.toks) (λb o hb e=>eb b o hb e) f0 f1 f3 f4 f5⟩
 self:=λ_ _ _ _ _ st h=>wpAny_pyIter_rangeiter st h
end L2
namespace L2
open PySem PySem.Spec PyProof.Rows
section
variable{X:Cx}{tg:Expr}
def ZlD(K:PySem.W.Frag)(tl:TE):TI:=λσ H R=>tl σ H λx H1=>∃a,x = .ref a/\(∃xs,SqT K H1 a xs)/\R (Itt K a) H1
theorem ZiX{l:Expr}{tl:TE}(hl:PE X l tl):PI X tg l (ZlD X.K tl):=by
 intro pins s σ H R I h;refine thn (hl pins s σ H _ I h) λv s1 ⟨x,H1,I1,r1,q1⟩ => ?_
 obtain⟨a,e,⟨xs,hq⟩,q⟩:=q1;subst e;cases r1;obtain⟨its,rv,p,hz⟩:=I1.tuple hq;refine wpAny_pyIter_tuple (show s1.heap.IsTuple a its.toArray from p) ?_;refine⟨s1.heap.objs.size,[s1.heap.objs.size],_,_,H1,rfl,I1.kept (t':=s1.toks) λb o e=>Heap.get?_push_of_some _ e,ZaR a _,⟨_,Heap.get?_push_size _ rfl,rfl,rfl⟩,λb hb => ?_,q⟩;have e:b=s1.heap.objs.size:=by simpa using hb
 subst e;exact I1.fpOk (Nat.le_refl _) (I1.hok.fresh (Nat.le_refl _))
theorem Zcm {pins:List (Addr×Obj)} {σ:St} {H:Hp} {s:Shared} {R:It->Hp->Prop} {E:Value->Shared->Prop} {lo hi:Int} {t u v:Tok} {tk:Nat} (I:Inv X pins σ H s) (h1 : -(2 ^ 62)<=lo) (h2:lo<2 ^ 62) (h3 : -(2 ^ 62)<=hi) (h4:hi<2 ^ 62)
 (q:R (Itr lo (hi-lo).toNat) H):wpAny (model X.prog X.w) X.A (pyIter (.ref s.heap.objs.size)) (PIE X pins σ tg R) E { s with heap:=s.heap.push { cls := .type "range",data := .fields #[.int lo t,.int hi u,.int 1 v] },toks:=tk }:=by
 refine wpAny_pyIter_range (IsRange.new ..) (small_one h1 h2 h3 h4) ?_;have I1:Inv X pins σ H { s with heap:=s.heap.push { cls := .type "range",data := .fields #[.int lo t,.int hi u,.int 1 v] },toks:=tk }:=I.kept λb o e=>Heap.get?_push_of_some _ e
 refine⟨(s.heap.push { cls := .type "range",data := .fields #[.int lo t,.int hi u,.int 1 v] }).objs.size,[(s.heap.push { cls := .type "range",data := .fields #[.int lo t,.int hi u,.int 1 v] }).objs.size],_,_,H,rfl,
  I1.kept (t':=tk) λb o e=>Heap.get?_push_of_some _ e,ZcW _ lo (hi-lo).toNat,?_,λb hb => ?_,q⟩
 · have e1:lo+((0:Nat):Int)*1=lo:=by simp
   have e2:(((hi-lo).toNat:Nat):Int)-((0:Nat):Int)=Builtin.Range.rangeSize lo hi 1:=by rw [rangeSize_one];split<;>omega
   show IsRangeIter _ _ (lo+((0:Nat):Int)*1) ((((hi-lo).toNat:Nat):Int)-((0:Nat):Int)) 1;rw [e1,e2];exact Heap.get?_push_size _ rfl
 · have e:b=(s.heap.push { cls := .type "range",data := .fields #[.int lo t,.int hi u,.int 1 v] }).objs.size:=by simpa using hb
   subst e;exact I1.fpOk (Nat.le_refl _) (I1.hok.fresh (Nat.le_refl _))
def JU(ta:TA):TI:=λσ H R=>ta σ H λvs H1=>∃j:Int,vs=[.int j] /\ -(2 ^ 62)<=j/\j<2 ^ 62/\R (Itr 0 j.toNat) H1
def JV(ta:TA):TI:=λσ H R=>ta σ H λvs H1=>∃i j:Int,vs=[.int i,.int j]/\(-(2 ^ 62)<=i/\i<2 ^ 62 /\ -(2 ^ 62)<=j/\j<2 ^ 62)/\R (Itr i (j-i).toNat) H1
theorem Xu {a:Expr} {ta:TA} {p pos:Pos} (hg:Gl X "range") (hm:X.mg "range" = none) (ha:PA X [a] ta) (hs:starEach [a] X.env=[(false,eval a X.env)]:=by rfl):PI X tg (.Call (.Name "range" p) [a] [] pos) (JU ta):=by
 intro pins s σ H R I h;refine Call_ (Va I hg hm boot_range (PyProof.Rows.callWith_type1 (thn (ha pos pins s σ H _ I h) λus s1 ⟨vs,H1,I1,r1,q1⟩ => ?_) hs rfl));obtain⟨j,e,q1,q2,q⟩:=q1;subst e;cases r1 with
 |cons r rr=>
  cases rr;obtain⟨t,rfl⟩:=r;exact call_range_1 (Zcm I1 (by omega) (by omega) q1 q2 (by simpa using q))
theorem Zbe {a b:Expr} {ta:TA} {p pos:Pos} (hg:Gl X "range") (hm:X.mg "range" = none) (ha:PA X [a,b] ta) (hs:starEach [a,b] X.env=[(false,eval a X.env),(false,eval b X.env)]:=by rfl) (hs2:starEach [b] X.env=[(false,eval b X.env)]:=by rfl) :
 PI X tg (.Call (.Name "range" p) [a,b] [] pos) (JV ta):=by
 intro pins s σ H R I h;refine Call_ (Va I hg hm boot_range (PyProof.Rows.callWith_type1 (thn (ha pos pins s σ H _ I h) λus s1 ⟨vs,H1,I1,r1,q1⟩ => ?_) (by rw [hs,hs2]) (by rw [hs2];rfl)));obtain⟨i,j,e,⟨q1,q2,q3,q4⟩,q⟩:=q1;subst e;cases r1 with
 |cons r rr=>
  cases rr with
  |cons r' rr=>
   cases rr;obtain⟨t,rfl⟩:=r;obtain⟨t',rfl⟩:=r';exact call_range_2 (Zcm I1 q1 q2 q3 q4 q)
def Vu(wi:TI)(g:TG)(tb:TS):TS:=λD σ H=>wi σ H λJ H1=>∃W:Nat->Nat->St->Hp->Prop,(∃m,W 0 m σ H1)/\∀i m σ H,W i m σ H ->
 (J.stop i H/\D.nx σ H)\/(J.go i H/\∃N:St->Hp->Prop,(∀σ' H',N σ' H'->∃m',m'<m/\W (i+1) m' σ' H')/\∀x H',J.yld i H x H'->g x σ H' λσ2 H2=>tb { D with nx:=N,ct:=N,bk:=D.nx } σ2 H2)
def Vb(fp:List Addr)(h:Heap):List (Addr×Obj):=fp.filterMap λb=>(h.get? b).map λo=>(b,o)
theorem QK{fp:List Addr}{h:Heap}{b:Addr}{o:Obj}(hb:b∈fp)(e:h.get? b=some o):(b,o)∈Vb fp h:=List.mem_filterMap.mpr ⟨b,hb,by rw [e];rfl⟩
theorem Zbf{fp:List Addr}{h:Heap}{p:Addr×Obj}(hp:p∈Vb fp h):p.1∈fp/\h.get? p.1=some p.2:=by
 obtain⟨b,hb,e⟩:=List.mem_filterMap.mp hp;cases q:h.get? b with
 |none=>rw [q]at e;cases e
 |some o=>
  rw [q]at e;have e':(b,o)=p:=Option.some.inj e;subst e';exact⟨hb,q⟩
theorem Inv.pinned{pins:List (Addr×Obj)}{σ:St}{H:Hp}{s:Shared}{fp:List Addr}(I:Inv X pins σ H s)(hf:∀b∈fp,Xs X pins H b)(ho:∀b∈fp,∃o,s.heap.get? b=some o/\∀v,o.data ≠ .cell v):Inv X (pins++Vb fp s.heap) σ H s:=
 I.pins_of λp hp=>(List.mem_append.mp hp).elim (λz=>I.pin p (List.mem_append_right _ z)) λz=>by
  obtain⟨hb,e⟩:=Zbf z;obtain⟨f0,f1,f2,_⟩:=hf p.1 hb;obtain⟨o,e',d⟩:=ho p.1 hb;rw [e]at e';cases e';exact⟨e,f0,f1,f2,d⟩
theorem Inv.unpinned{pins pl:List (Addr×Obj)}{σ:St}{H:Hp}{s:Shared}(I:Inv X (pins++pl) σ H s):Inv X pins σ H s:=I.pins_of λp hp=>I.pin p (List.mem_append_right _ (List.mem_append_left _ hp))
theorem Y0 {iter:Expr} {body:List Stmt} {wi:TI} {g:TG} {tb:TS} {pos:Pos} (hp:PassesOwn (model X.prog X.w) X.A X.env X.xe) (hc:X.calm=true) (hi:PI X tg iter wi) (hg:PG X tg g) (hb:PSs X body tb)
 (hs:∀x,foldedSetIterable iter X.env x=pure x:=by intro _;rfl):PS X (.For tg iter body [] pos) (Vu wi g tb):=by
 intro pins s σ H D I h;refine wpAny_For (thn (hi pins s σ H _ I h) λv s1 h1=>thn h1 λitv s2 h2 => ?_) hs;obtain⟨it,fp,tn,J,H2,e,I2,T,st2,f2,W,⟨m0,w0⟩,turn⟩:=h2;subst e;have stat:∀{H':Hp},(∀b∈fp,H' b=none)->∀b∈fp,Xs X pins H' b:=λhn b hb=>⟨hn b hb,(f2 b hb).2⟩
 refine codeAny_forLoop_any (λn s'=>∃i σ' H',Inv X pins σ' H' s'/\tn i s'.heap/\(∀b∈fp,H' b=none)/\W i n σ' H') ?_ m0 ⟨0,σ,H2,I2,st2,λb hb=>(f2 b hb).1,w0⟩
 rintro n s3 ⟨i,σ3,H3,I3,st3,fr3,w3⟩
 rcases turn i n σ3 H3 w3 with⟨stop,qn⟩|⟨go,N,hN,step⟩
 · refine wpAny_passesOwn hp (thn (T.done X rfl rfl rfl hc i pins s3 σ3 H3 X.xe I3 (stat fr3) st3 stop) λr s4 ⟨hr,I4⟩ => ?_)
   subst hr;exact wpAny_execs_nil ⟨σ3,H3,I4,qn⟩
 · refine wpAny_passesOwn hp (thn (T.item X rfl rfl rfl hc i pins s3 σ3 H3 X.xe I3 (stat fr3) st3 go) λr s4 ⟨u,hr,h4⟩ => ?_)
   subst hr;refine wpAny_passesOwn hp (thn h4 λ_ s5 ⟨x,H5,I5,r5,y5,st5,fr5⟩ => ?_);have I5':=I5.pinned (stat fr5) (T.obj _ _ st5);refine wpAny_passesOwn hp (thn (hg _ s5 σ3 H5 x u _ I5' r5 (step x H5 y5)) λ_ s6 ⟨σ6,H6,I6,q6⟩ => ?_);refine wpAny_passesOwn hp (thn (hb _ s6 σ6 H6 _ I6 q6) λf s7 q7 => ?_)
   have again:∀{σ7:St}{H7:Hp},Inv X (pins++Vb fp s5.heap) σ7 H7 s7->N σ7 H7->∃m,m<n/\∃i σ' H',Inv X pins σ' H' s7/\tn i s7.heap/\(∀b∈fp,H' b=none)/\W i m σ' H':=λ{σ7 H7} I7 n7=>by
    obtain⟨m',hm,w7⟩:=hN σ7 H7 n7;refine⟨m',hm,i+1,σ7,H7,I7.unpinned,T.keep _ _ _ st5 λb hb o e=>(I7.pin (b,o) (List.mem_append_right _ (List.mem_append_right _ (QK hb e)))).1,λb hb => ?_,w7⟩;obtain⟨o,e,d⟩:=T.obj _ _ st5 b hb;exact(I7.pin (b,o) (List.mem_append_right _ (List.mem_append_right _ (QK hb e)))).2.1
   cases f with
   |next=>obtain⟨σ7,H7,I7,n7⟩:=q7;exact again I7 n7
   |cont=>obtain⟨σ7,H7,I7,n7⟩:=q7;exact again I7 n7
   |brk=>obtain⟨σ7,H7,I7,q7⟩:=q7;exact⟨σ7,H7,I7.unpinned,q7⟩
   |ret v=>obtain⟨x7,σ7,H7,I7,r7,q7⟩:=q7;exact⟨x7,σ7,H7,I7.unpinned,r7,q7⟩
end
end L2
namespace L2
open PySem PySem.Spec PyProof.Rows
abbrev R2:=V->V->Hp->VK->Prop
def OpR(X:Cx)(f:Value->Value->Sem Value)(r:R2):Prop:=
 ∀(pins:List (Addr×Obj))(s:Shared)(σ:St)(H:Hp)(x y:V)(v u:Value)(Q:VK),Inv X pins σ H s->RelV x v->RelV y u->r x y H Q ->
  wpAny (model X.prog X.w) X.A (f v u) (EP X pins σ Q) X.xe s
def UnR(X:Cx)(f:Value->Sem Value)(r:V->Hp->VK->Prop):Prop:=
 ∀(pins:List (Addr×Obj))(s:Shared)(σ:St)(H:Hp)(x:V)(v:Value)(Q:VK),Inv X pins σ H s->RelV x v->r x H Q ->
  wpAny (model X.prog X.w) X.A (f v) (EP X pins σ Q) X.xe s
def Z6(X:Cx)(f:Value)(r:List V->Hp->VK->Prop):Prop:=
 ∀(pins:List (Addr×Obj))(s:Shared)(σ:St)(H:Hp)(xs:List V)(us:List Value)(Q:VK),Inv X pins σ H s->Vals xs us->r xs H Q ->
  wpAny (model X.prog X.w) X.A (call f us) (EP X pins σ Q) X.xe s
def tOp(r:R2)(ta tb:TE):TE:=λσ H Q=>ta σ H λx H1=>tb σ H1 λy H2=>r x y H2 Q
def tUn(r:V->Hp->VK->Prop)(ta:TE):TE:=λσ H Q=>ta σ H λx H1=>r x H1 Q
def rI(C:Int->Int->Prop)(g:Int->Int->V):R2:=λx y H Q=>∃i j,x = .int i/\y = .int j/\C i j/\Q (g i j) H
def rI0(g:Int->Int->V):R2:=λx y H Q=>∃i j,x = .int i/\y = .int j/\Q (g i j) H
def rU(g:Int->V):V->Hp->VK->Prop:=λx H Q=>∃i,x = .int i/\Q (g i) H
section
variable{X:Cx}{a b c:Expr}{ta tb tc:TE}{pos:Pos}
theorem JW (ha:PE X a ta) (hb:PE X b tb) {pins:List (Addr×Obj)} {s:Shared} {σ:St} {H:Hp} {R:V->V->Hp->Prop} (I:Inv X pins σ H s)
 (h:ta σ H λx H1=>tb σ H1 λy H2=>R x y H2) {Q:Value->Shared->Prop} {f:Value->Value->Sem Value}
 (hf:∀v u s2 x y H2,Inv X pins σ H2 s2->RelV x v->RelV y u->R x y H2->wpAny (model X.prog X.w) X.A (f v u) Q X.xe s2) :
 wpAny (model X.prog X.w) X.A (eval a X.env) (λv s₁=>wpAny (model X.prog X.w) X.A (eval b X.env) (λu s₂=>wpAny (model X.prog X.w) X.A (f v u) Q X.xe s₂) X.xe s₁) X.xe s:=by
 refine thn (ha pins s σ H _ I h) λv s1 ⟨x,H1,I1,r1,q1⟩ => ?_
 refine thn (hb pins s1 σ H1 _ I1 q1) λu s2 ⟨y,H2,I2,r2,q2⟩ => ?_
 exact hf v u s2 x y H2 I2 r1 r2 q2
theorem ZD{op:Operator}{r:R2}(ho:OpR X (binaryOp op) r)(ha:PE X a ta)(hb:PE X b tb):PE X (.BinOp a op b pos) (tOp r ta tb):=by
 intro pins s σ H Q I h;exact wpAny_BinOp (JW ha hb I h λv u s2 x y H2 I2 rx ry q=>ho pins s2 σ H2 x y v u Q I2 rx ry q)
theorem Zic{op:UnaryOp}{r:V->Hp->VK->Prop}(ho:UnR X (unaryOp op) r)(ha:PE X a ta):PE X (.UnaryOp op a pos) (tUn r ta):=by
 intro pins s σ H Q I h;exact UnaryOp_ (thn (ha pins s σ H _ I h) λv s1 ⟨x,H1,I1,r1,q1⟩=>ho pins s1 σ H1 x v Q I1 r1 q1)
theorem opI {f:Value->Value->Sem Value} {C:Int->Int->Prop} {g:Int->Int->Int}
 (rule:∀(i j:Int)(t u:Tok)(s:Shared)(Q:Value->Shared->Prop)(E:Value->Shared->Prop),C i j->Q (.int (g i j) s.toks) { s with toks:=s.toks+1 }->wpAny (model X.prog X.w) X.A (f (.int i t) (.int j u)) Q E s) :
 OpR X f (rI C λi j => .int (g i j)):=by
 intro pins s σ H x y v u Q I rx ry h;obtain⟨i,j,rfl,rfl,hc,q⟩:=h;obtain⟨t,rfl⟩:=rx;obtain⟨t',rfl⟩:=ry;exact rule i j t t' s _ _ hc ⟨.int (g i j),H,I.tok _,⟨_,rfl⟩,q⟩
theorem Zk9 {f:Value->Value->Sem Value} {g:Int->Int->Int}
 (rule:∀(i j:Int)(t u:Tok)(s:Shared)(Q:Value->Shared->Prop)(E:Value->Shared->Prop),Q (.int (g i j) s.toks) { s with toks:=s.toks+1 }->wpAny (model X.prog X.w) X.A (f (.int i t) (.int j u)) Q E s) :
 OpR X f (rI0 λi j => .int (g i j)):=by
 intro pins s σ H x y v u Q I rx ry h;obtain⟨i,j,rfl,rfl,q⟩:=h;obtain⟨t,rfl⟩:=rx;obtain⟨t',rfl⟩:=ry;exact rule i j t t' s _ _ ⟨.int (g i j),H,I.tok _,⟨_,rfl⟩,q⟩
theorem JX {f:Value->Value->Sem Value} {g:Int->Int->Bool}
 (rule:∀(i j:Int)(t u:Tok)(s:Shared)(Q:Value->Shared->Prop)(E:Value->Shared->Prop),Q (.bool (g i j)) s->wpAny (model X.prog X.w) X.A (f (.int i t) (.int j u)) Q E s) :
 OpR X f (rI0 λi j => .bl (g i j)):=by
 intro pins s σ H x y v u Q I rx ry h;obtain⟨i,j,rfl,rfl,q⟩:=h;obtain⟨t,rfl⟩:=rx;obtain⟨t',rfl⟩:=ry;exact rule i j t t' s _ _ ⟨.bl (g i j),H,I,rfl,q⟩
def Qf(i j:Int):Prop:=0<j/\j<1073741824
def Zla(i j:Int):Prop:=0<=j/\j<=1000000/\i.natAbs<2 ^ 64
def CMul(i j:Int):Prop:=(-(2 ^ 64)<i/\i<2 ^ 64)\/(-(2 ^ 64)<j/\j<2 ^ 64)
theorem CMul.ok{i j:Int}(h:CMul i j):IntMulOk i j:=by
 rcases h with⟨h1,h2⟩|⟨h1,h2⟩
 · exact .of_left (intBits_le_64 h1 h2)
 · exact .of_right (intBits_le_64 h1 h2)
theorem op_add:OpR X (binaryOp .Add) (rI0 λi j => .int (i+j)):=Zk9 λ_ _ _ _ _ _ _ q=>add_int q
theorem QL:OpR X (binaryOp .Sub) (rI0 λi j => .int (i-j)):=Zk9 λ_ _ _ _ _ _ _ q=>sub_int q
theorem Y1:OpR X (binaryOp .Mod) (rI (λ_ j=>j≠0) λi j => .int (i.fmod j)):=opI λ_ _ _ _ _ _ _ hc q=>mod_int' hc q
theorem unI {f:Value->Sem Value} {g:Int->Int}
 (rule:∀(i:Int)(t:Tok)(s:Shared)(Q:Value->Shared->Prop)(E:Value->Shared->Prop),Q (.int (g i) s.toks) { s with toks:=s.toks+1 }->wpAny (model X.prog X.w) X.A (f (.int i t)) Q E s) :
 UnR X f (rU λi => .int (g i)):=by
 intro pins s σ H x v Q I rx h;obtain⟨i,rfl,q⟩:=h;obtain⟨t,rfl⟩:=rx;exact rule i t s _ _ ⟨.int (g i),H,I.tok _,⟨_,rfl⟩,q⟩
theorem Zf4:UnR X (unaryOp .USub) (rU λi => .int (-i)):=unI λ_ _ _ _ _ q=>neg_int q
end
def scal:V->V->Bool
 | .non,.non=>true | .non,.int _=>true | .int _,.non=>true | .non,.bl _=>true | .bl _,.non=>true | .non,.str _=>true | .str _,.non=>true
 | .int _,.int _=>true | .bl _,.bl _=>true | .str _,.str _=>true | .byt _,.byt _=>true
 | .int _,.str _=>true | .str _,.int _=>true | .bl _,.str _=>true | .str _,.bl _=>true
 |_,_=>false
def rEq:R2:=λx y H Q=>scal x y=true/\Q (.bl (decide (x=y))) H
def rNe:R2:=λx y H Q=>scal x y=true/\Q (.bl (!decide (x=y))) H
theorem ZdE{i j:Int}:decide (V.int i=V.int j)=(i == j):=by
 rw [Bool.eq_iff_iff];simp
theorem Zf5{i j:Bool}:decide (V.bl i=V.bl j)=(i == j):=by
 rw [Bool.eq_iff_iff];simp
theorem ZdF{i j:Str}:decide (V.str i=V.str j)=(i == j):=by
 rw [Bool.eq_iff_iff];simp
theorem ZdG{i j:Array UInt8}:decide (V.byt i=V.byt j)=(i.toList == j.toList):=by
 rw [Bool.eq_iff_iff];cases i;cases j;simp
section
variable{X:Cx}{a b c:Expr}{ta tb tc:TE}{pos:Pos}
theorem Z1{pins:List (Addr×Obj)}{σ:St}{H:Hp}{s:Shared}{Q:VK}{k k':Bool}(I:Inv X pins σ H s)(q:Q (.bl k) H)(e:k=k'):EP X pins σ Q (.bool k') s:=by
 subst e;exact⟨.bl k,H,I,rfl,q⟩
theorem ZjT:OpR X (compareOp .Eq) rEq:=by
 intro pins s σ H x y v u Q I rx ry h;obtain⟨hs,q⟩:=h;cases x with
 |non=>
  cases rx;cases y with
  |non=>cases ry;exact PySem.EqNone.eq_none_none (Z1 I q (by simp))
  |bl j=>cases ry;exact PySem.EqNone.eq_none_bool (Z1 I q (by simp))
  |int j=>obtain⟨t',rfl⟩:=ry;exact PySem.EqNone.eq_none_int (Z1 I q (by simp))
  |str j=>obtain⟨t',rfl⟩:=ry;exact PySem.EqNone.eq_none_str (Z1 I q (by simp))
  |_=>exact absurd (show false=true from hs) Bool.false_ne_true
 |bl i=>
  cases rx;cases y with
  |non=>cases ry;exact PySem.EqNone.eq_bool_none (Z1 I q (by simp))
  |bl j=>cases ry;exact eq_bool (Z1 I q Zf5)
  |str j=>obtain⟨t',rfl⟩:=ry;exact PySem.EqMixed.eq_bool_str (Z1 I q (by simp))
  |_=>exact absurd (show false=true from hs) Bool.false_ne_true
 |int i=>
  obtain⟨t,rfl⟩:=rx;cases y with
  |non=>cases ry;exact PySem.EqNone.eq_int_none (Z1 I q (by simp))
  |int j=>obtain⟨t',rfl⟩:=ry;exact eq_int (Z1 I q ZdE)
  |str j=>obtain⟨t',rfl⟩:=ry;exact PySem.EqMixed.eq_int_str (Z1 I q (by simp))
  |_=>exact absurd (show false=true from hs) Bool.false_ne_true
 |str i=>
  obtain⟨t,rfl⟩:=rx;cases y with
  |non=>cases ry;exact PySem.EqNone.eq_str_none (Z1 I q (by simp))
  |bl j=>cases ry;exact PySem.EqMixed.eq_str_bool (Z1 I q (by simp))
  |int j=>obtain⟨t',rfl⟩:=ry;exact PySem.EqMixed.eq_str_int (Z1 I q (by simp))
  |str j=>obtain⟨t',rfl⟩:=ry;exact eq_str (Z1 I q ZdF)
  |_=>exact absurd (show false=true from hs) Bool.false_ne_true
 |byt i=>
  obtain⟨t,rfl⟩:=rx;cases y with
  |byt j=>obtain⟨t',rfl⟩:=ry;exact PySem.W.eq_bytes (Z1 I q ZdG)
  |_=>exact absurd (show false=true from hs) Bool.false_ne_true
 |_=>cases y<;>exact absurd (show false=true from hs) Bool.false_ne_true
theorem ZjU:OpR X (compareOp .NotEq) rNe:=by
 intro pins s σ H x y v u Q I rx ry h;obtain⟨hs,q⟩:=h;cases x with
 |non=>
  cases rx;cases y with
  |non=>cases ry;exact PySem.EqNone.ne_none_none (Z1 I q (by simp))
  |bl j=>cases ry;exact PySem.EqNone.ne_none_bool (Z1 I q (by simp))
  |int j=>obtain⟨t',rfl⟩:=ry;exact PySem.EqNone.ne_none_int (Z1 I q (by simp))
  |str j=>obtain⟨t',rfl⟩:=ry;exact PySem.EqNone.ne_none_str (Z1 I q (by simp))
  |_=>exact absurd (show false=true from hs) Bool.false_ne_true
 |bl i=>
  cases rx;cases y with
  |non=>cases ry;exact PySem.EqNone.ne_bool_none (Z1 I q (by simp))
  |bl j=>cases ry;exact ne_bool (Z1 I q (congrArg not Zf5))
  |str j=>obtain⟨t',rfl⟩:=ry;exact PySem.EqMixed.ne_bool_str (Z1 I q (by simp))
  |_=>exact absurd (show false=true from hs) Bool.false_ne_true
 |int i=>
  obtain⟨t,rfl⟩:=rx;cases y with
  |non=>cases ry;exact PySem.EqNone.ne_int_none (Z1 I q (by simp))
  |int j=>obtain⟨t',rfl⟩:=ry;exact ne_int (Z1 I q (congrArg not ZdE))
  |str j=>obtain⟨t',rfl⟩:=ry;exact PySem.EqMixed.ne_int_str (Z1 I q (by simp))
  |_=>exact absurd (show false=true from hs) Bool.false_ne_true
 |str i=>
  obtain⟨t,rfl⟩:=rx;cases y with
  |non=>cases ry;exact PySem.EqNone.ne_str_none (Z1 I q (by simp))
  |bl j=>cases ry;exact PySem.EqMixed.ne_str_bool (Z1 I q (by simp))
  |int j=>obtain⟨t',rfl⟩:=ry;exact PySem.EqMixed.ne_str_int (Z1 I q (by simp))
  |str j=>obtain⟨t',rfl⟩:=ry;exact ne_str (Z1 I q (congrArg not ZdF))
  |_=>exact absurd (show false=true from hs) Bool.false_ne_true
 |byt i=>
  obtain⟨t,rfl⟩:=rx;cases y with
  |byt j=>obtain⟨t',rfl⟩:=ry;exact PySem.W.ne_bytes (Z1 I q (congrArg not ZdG))
  |_=>exact absurd (show false=true from hs) Bool.false_ne_true
 |_=>cases y<;>exact absurd (show false=true from hs) Bool.false_ne_true
theorem UN:OpR X (compareOp .Lt) (rI0 λi j => .bl (decide (i<j))):=JX λ_ _ _ _ _ _ _ q=>lt_int q
theorem ZjV:OpR X (compareOp .Gt) (rI0 λi j => .bl (decide (j<i))):=JX λ_ _ _ _ _ _ _ q=>gt_int q
theorem ZjW:OpR X (compareOp .GtE) (rI0 λi j => .bl (decide (j<=i))):=JX λ_ _ _ _ _ _ _ q=>ge_int q
theorem Zel:OpR X (compareOp .In) (λx y H Q=>∃i j,x = .str i/\y = .str j/\Q (.bl (!(Builtin.Str.occurrences j i 0 j.length 1).isEmpty)) H):=by
 intro pins s σ H x y v u Q I rx ry h;obtain⟨i,j,rfl,rfl,q⟩:=h;obtain⟨t,rfl⟩:=rx;obtain⟨t',rfl⟩:=ry;exact in_str (Z1 I q rfl)
theorem ZbF:OpR X (compareOp .NotIn) (λx y H Q=>∃i j,x = .str i/\y = .str j/\Q (.bl (!(!(Builtin.Str.occurrences j i 0 j.length 1).isEmpty))) H):=by
 intro pins s σ H x y v u Q I rx ry h;obtain⟨i,j,rfl,rfl,q⟩:=h;obtain⟨t,rfl⟩:=rx;obtain⟨t',rfl⟩:=ry;exact notIn_str (Z1 I q rfl)
theorem OpR.or{f:Value->Value->Sem Value}{r r':R2}(h:OpR X f r)(h':OpR X f r'):OpR X f (λx y H Q=>r x y H Q\/r' x y H Q):=by
 intro pins s σ H x y v u Q I rx ry q;rcases q with q|q
 · exact h pins s σ H x y v u Q I rx ry q
 · exact h' pins s σ H x y v u Q I rx ry q
theorem Yb(b:Expr){op:CmpOp}(h:op ≠ .In:=by decide)(h2:op ≠ .NotIn:=by decide):behindInMarks op b=false:=by
 have e1:(op == CmpOp.In)=false:=by cases op<;>first|rfl|exact absurd rfl h
 have e2:(op == CmpOp.NotIn)=false:=by cases op<;>first|rfl|exact absurd rfl h2
 cases b<;>simp [behindInMarks,e1,e2]
theorem JY{op:CmpOp}{r:R2}(ho:OpR X (compareOp op) r)(ha:PE X a ta)(hb:PE X b tb)(hm:behindInMarks op b=false):PE X (.Compare a [op] [b] pos) (tOp r ta tb):=by
 intro pins s σ H Q I h;exact wpAny_Compare1 (JW ha hb I h λv u s2 x y H2 I2 rx ry q=>ho pins s2 σ H2 x y v u Q I2 rx ry q) hm
def Zid(t:TE):TT:=λσ H Q=>t σ H λx H'=>∃k,x = .bl k/\Q k H'
theorem Z7{op:CmpOp}{r:R2}(ho:OpR X (compareOp op) r)(ha:PE X a ta)(hb:PE X b tb)(hm:behindInMarks op b=false):PT X (.Compare a [op] [b] pos) (Zid (tOp r ta tb)):=by
 intro pins s σ H Q I h
 refine wpAny_isTrue_Compare1 (thn (ha pins s σ H _ I h) λv s1 ⟨x,H1,I1,r1,q1⟩=>thn (hb pins s1 σ H1 _ I1 q1) λu s2 ⟨y,H2,I2,r2,q2⟩=>
  thn (ho pins s2 σ H2 x y v u _ I2 r1 r2 q2) λc s3 ⟨z,H3,I3,r3,k,e,q3⟩ => ?_) hm
 subst e;cases r3;exact wpAny_truthy_bool ⟨H3,I3,q3⟩
theorem UO:(sizeLine:Nat)<2 ^ 63:=by rw [sizeLine_eq];decide
theorem ZcX:OpR X (binaryOp .Add) (λx y H Q=>∃i j,x = .str i/\y = .str j/\i.length+j.length<=sizeLine/\Q (.str (i++j)) H):=by
 intro pins s σ H x y v u Q I rx ry h;obtain⟨i,j,rfl,rfl,hz,q⟩:=h;obtain⟨t,rfl⟩:=rx;obtain⟨t',rfl⟩:=ry;exact add_str (λt' tk=>⟨.str (i++j),H,I.tok _,⟨_,rfl⟩,q⟩) hz
theorem YV{x:V}{us:List Value}(r:Vals [x] us):∃u,us=[u]/\RelV x u:=by
 cases r with
 |cons r1 r2=>cases r2;exact⟨_,rfl,r1⟩
theorem Zie{x y:V}{us:List Value}(r:Vals [x,y] us):∃u w',us=[u,w']/\RelV x u/\RelV y w':=by
 cases r with
 |cons r1 r2=>
  cases r2 with
  |cons r3 r4=>cases r4;exact⟨_,_,rfl,r1,r3⟩
end
end L2
namespace L2
open PySem PySem.Spec PyProof.Rows
structure ObjM(h:Heap)(x dx C:Addr)(mA:Str->Option Value):Prop where
 obj:h.get? x=some (instObj C dx)
 ns:h.Ns1 dx mA
 ne:dx≠x
theorem Zem{h:Heap}{dx:Addr}{mA:Str->Option Value}(n:h.Ns1 dx mA):∃od,h.get? dx=some od/\∀name,PySem.W.lookIn name od=some (mA name):=by
 obtain⟨o,es,ep,ho,hd,hk,_,hm⟩:=n;refine⟨o,ho,λname => ?_⟩;have e:=hm name;unfold nsFind findBy at e;rw [<-Array.find?_toList]at e;unfold PySem.W.lookIn;rw [hd];dsimp only
 split
 · rename_i y q
   rw [q]at e;exact congrArg some e
 · rename_i q
   rw [q]at e
   have a:es.toList.any (·.refKey)=false:=by
    rw [List.any_eq_false];intro y hy;obtain⟨z,t,hkey⟩:=hk y (Array.mem_toList_iff.mp hy);simp [DictEntry.refKey,hkey]
   have a':¬es.toList.any (·.refKey)=true:=by rw [a];exact Bool.false_ne_true
   rw [if_neg a'];exact congrArg some e
theorem ObjM.look{h:Heap}{x dx C:Addr}{mA:Str->Option Value}(I:ObjM h x dx C mA):∃od,PySem.W.InstAt h x (instObj C dx) C (some od)/\∀name,PySem.W.lookIn name od=some (mA name):=
 let⟨od,ho,hl⟩:=Zem I.ns
 ⟨od,⟨I.obj,rfl,rfl,ho⟩,hl⟩
section
variable{prog:Program}{w:World}{A:Around}{E:Value->Shared->Prop}{s:Shared}{K:PySem.W.Frag}{x dx C f:Addr}{mA:Str->Option Value}{name:Str}{v:Value}
theorem Zg7 {expr:Bool} {Q:Value->Shared->Prop} (X:K.In s.heap) (I:ObjM s.heap x dx C mA) (hg:PySem.W.plainGet K C name=true) (hh:PySem.W.hasDictIn K C=true)
 (ha:PySem.W.findIn K (.ref C) name=some none) (hv:mA name=some v) (hv':PySem.W.handedIn v=true) (h:Q v { s with toks:=s.toks+1 }) :
 wpAny (model prog w) A (getAttr (.ref x) name expr) Q E s:=by
 obtain⟨od,J,hl⟩:=I.look;exact PySem.W.get_value X J (PySem.W.plainGet_of hg).1 (PySem.W.findObj_own hh ha rfl (by rw [hl,hv])) hv' h
theorem Ze5 {pl:Sem Bool} {Q:Value×List Value->Shared->Prop} (X:K.In s.heap) (I:ObjM s.heap x dx C mA) (hg:PySem.W.plainGet K C name=true)
 (hf:PySem.W.findIn K (.ref C) name=some (some (.ref f))) (ht:isFn K (.ref f)=true) (hv:mA name=none) (h:Q (.ref f,[.ref x]) s) :
 wpAny (model prog w) A (getMethod (.ref x) name pl) Q E s:=by
 obtain⟨od,J,hl⟩:=I.look;exact PySem.W.method_fn X J (PySem.W.plainGet_of hg).1 (PySem.W.plainGet_of hg).2 hf (beq_iff_eq.mp ht) (by show(PySem.W.lookIn name od).map (·.isSome)=some false;rw [hl,hv];rfl) h
theorem Zg8 {ns:List Str} {Q:Unit->Shared->Prop} (X:K.In s.heap) (I:ObjM s.heap x dx C mA)
 (hs:PySem.W.findIn K (.ref C) "__setattr__" = some (some (.builtin "object.__setattr__"))) (hp:PySem.W.plainOver K C=true) (ht:PySem.W.takerIn K C name=some none) (hh:PySem.W.hasDictIn K C=true)
 (hw:PySem.Within mA ns) (hsz:ns.length<=sizeLine)
 (h:∀h',ObjM h' x dx C (λy=>if y=name then some v else mA y)->Heap.SameBut dx s.heap h'->Q () { s with heap:=h',toks:=s.toks+2 }) :
 wpAny (model prog w) A (setAttr (.ref x) name v) Q E s:=by
 obtain⟨od,J,hl⟩:=I.look;refine PySem.W.set_plain X J hs (PySem.W.osa_open (s:={ s with toks:=s.toks+1 }) (r:=none) X J hp ht λb => ?_);obtain⟨cd,hc,hd'⟩:=PySem.W.any_some hh;have hx:s.heap.get? x=some ⟨.ref C,some dx,.plain,#[]⟩:=I.obj;refine wpAny_bind (wpAny_pure (wpAny_bind (wpAny_bind (wpAny_loadPart hx (wpAny_bind (PySem.W.Looks.here (s:={ s with toks:=s.toks+1 }) (PySem.W.looks_clsIn X hc) ?_))))))
 rw [hd'];refine wpAny_pure (a:=some dx) (wpAny_bind (wpAny_pure (wpAny_bind ?_)));refine wpAny_nsSet1 (s:={ s with toks:=s.toks+1 }) I.ns λh' hn2 hs2 => ?_
 obtain⟨oD,esD,epD,hoD,hdD,hcD⟩:=hn2.count (PySem.Within.cons name v hw);refine wpAny_bind (wpAny_lookBehind hoD (by rw [hdD];exact pastItsLine_dict (Nat.le_trans hcD (by rw [List.length_cons];omega))) ?_);exact wpAny_pure (h _ ⟨(hs2.2 _ (Ne.symm I.ne)).trans I.obj,hn2,I.ne⟩ hs2)
theorem Ze6 {R:Result->Shared->Prop} {vs:List Value} {kw:List (Str×Value)} (X:K.In s.heap) (hm:PySem.W.makesIn K C=true)
 (hi:PySem.W.findIn K (.ref C) "__init__" = some (some (.ref f))) (hf:PySem.W.typeIn K (.ref f)=some (.type "function"))
 (h:codeAny (model prog w) (A.under (.builtin "type.__call__" ⟨.ref C::vs,kw⟩)) (.call (.ref f) ⟨.ref (s.heap.objs.size+1)::vs,kw⟩) (PySem.W.InitBack (s.heap.objs.size+1) R)
   { s with heap:=(s.heap.push emptyDict).push (instObj C s.heap.objs.size) }) :
 codeAny (model prog w) A (.call (.ref C) ⟨vs,kw⟩) R s:=by
 obtain⟨hh,g,d,t,os⟩:=s;exact PySem.W.make_core (PySem.W.makes_of X hm) (PySem.W.looks_findIn X hi) (λself=>PySem.W.bind_fn X self hf) (.inl rfl) h
end
def Yz(f:Str)(v:V):List (Str×V)->List (Str×V)
 | []=>[(f,v)]
 |(g,x)::r=>if g=f then(g,v)::r else(g,x)::Yz f v r
theorem ZaF(f g:Str)(v:V):∀fs:List (Str×V),(Yz f v fs).lookup g=if g=f then some v else fs.lookup g
 | []=>by
  show List.lookup g [(f,v)]=_
  by_cases h:g=f
  · have hb:(g == f)=true:=beq_iff_eq.mpr h
    simp only [List.lookup,hb,if_pos h]
  · have hb:(g == f)=false:=beq_eq_false_iff_ne.mpr h
    simp only [List.lookup,hb,if_neg h]
 |(k,x)::r=>by
  have ih:=ZaF f g v r;rw [show Yz f v ((k,x)::r)=(if k=f then(k,v)::r else(k,x)::Yz f v r)from rfl]
  by_cases hk:k=f
  · rw [if_pos hk]
    by_cases h:g=k
    · have hb:(g == k)=true:=beq_iff_eq.mpr h
      simp only [List.lookup,hb,if_pos (h.trans hk)]
    · have hb:(g == k)=false:=beq_eq_false_iff_ne.mpr h
      simp only [List.lookup,hb,if_neg (λe:g=f=>h (e.trans hk.symm))]
  · rw [if_neg hk]
    by_cases h:g=k
    · have hb:(g == k)=true:=beq_iff_eq.mpr h
      simp only [List.lookup,hb,if_neg (λe:g=f=>hk (h.symm.trans e))]
    · have hb:(g == k)=false:=beq_eq_false_iff_ne.mpr h
      simp only [List.lookup,hb];exact ih
theorem JZ(f:Str)(v:V):∀fs:List (Str×V),f∈(Yz f v fs).map (·.1)/\∀g,g∈fs.map (·.1)->g∈(Yz f v fs).map (·.1)
 | []=>⟨by simp [Yz],λg h=>by simp at h⟩
 |(k,x)::r=>by
  obtain⟨i1,i2⟩:=JZ f v r;rw [show Yz f v ((k,x)::r)=(if k=f then(k,v)::r else(k,x)::Yz f v r)from rfl]
  by_cases hk:k=f
  · rw [if_pos hk]
    subst hk;exact⟨by simp,λg h=>by simpa using h⟩
  · rw [if_neg hk]
    refine⟨?_,λg h => ?_⟩
    · rw [List.map_cons]
      exact List.mem_cons_of_mem _ i1
    · rw [List.map_cons]at h ⊢
      rcases List.mem_cons.mp h with e|e
      · exact List.mem_cons.mpr (.inl e)
      · exact List.mem_cons_of_mem _ (i2 g e)
theorem ZaG(f:Str)(v:V):∀fs:List (Str×V),(Yz f v fs).length<=fs.length+1
 | []=>by simp [Yz]
 |(k,x)::r=>by
  have ih:=ZaG f v r;rw [show Yz f v ((k,x)::r)=(if k=f then(k,v)::r else(k,x)::Yz f v r)from rfl]
  by_cases hk:k=f
  · rw [if_pos hk,List.length_cons,List.length_cons];omega
  · rw [if_neg hk,List.length_cons,List.length_cons];omega
theorem RelO.some_of{v:V}{o:Option Value}(r:RelO (some v) o):∃u,o=some u/\RelV v u:=by
 cases o with
 |none=>exact(show False from r).elim
 |some u=>exact⟨u,rfl,r⟩
theorem RelO.none_of{o:Option Value}(r:RelO none o):o=none:=by
 cases o with
 |none=>rfl
 |some u=>exact(show False from r).elim
theorem Zen{v:V}{u:Value}(r:RelV v u):PySem.W.handedIn u=true:=by
 cases v with
 |non=>cases(show u=Value.none from r);rfl
 |bl b=>cases(show u=Value.bool b from r);rfl
 |int i=>obtain⟨t,e⟩:=(show ∃t,u=Value.int i t from r);cases e;rfl
 |str x=>obtain⟨t,e⟩:=(show ∃t,u=Value.str x t from r);cases e;rfl
 |byt b=>obtain⟨t,e⟩:=(show ∃t,u=Value.bytes b t from r);cases e;rfl
 |flt b=>obtain⟨t,e⟩:=(show ∃t,u=Value.float b t from r);cases e;rfl
 |ref a=>cases(show u=Value.ref a from r);rfl
 |ty n=>cases(show u=Value.type n from r);rfl
section
variable{P:Program}{w:World}{H H':Hp}{h h':Heap}{a C dx:Addr}{fs fs':List (Str×V)}
theorem QM(hok:HOk P w H h)(e:H a=some (.ins C dx fs)):∃mA,ObjM h a dx C mA/\(∀f,RelO (fs.lookup f) (mA f))/\PySem.Within mA (fs.map (·.1))/\fs.length<=1000/\H dx=some (.own a):=by
 obtain⟨d,z,ne,ob,mA,n,r,q⟩:=(show ObjOk P w H h a (.ins C dx fs)from hok a _ e)
 exact⟨mA,⟨ob,n,ne⟩,r,q,z,d⟩
end
structure Cls(K:PySem.W.Frag)(C:Addr):Prop where
 pg:PySem.W.plainGet K C Str.empty=true
 hd:PySem.W.hasDictIn K C=true
 po:PySem.W.plainOver K C=true
 sa:PySem.W.findIn K (.ref C) "__setattr__" = some (some (.builtin "object.__setattr__"))
theorem Cls.get{K:PySem.W.Frag}{C:Addr}(c:Cls K C)(f:Str):PySem.W.plainGet K C f=true:=c.pg
def NoAttr(K:PySem.W.Frag)(C:Addr)(f:Str):Prop:=PySem.W.findIn K (.ref C) f=some none
theorem NoAttr.taker{K:PySem.W.Frag}{C:Addr}{f:Str}(n:NoAttr K C f):PySem.W.takerIn K C f=some none:=by
 unfold PySem.W.takerIn;rw [show PySem.W.findIn K (.ref C) f=some none from n];rfl
structure Con(K:PySem.W.Frag)(C:Addr)(f:Str)(v:V)(u:Value):Prop where
 at_:PySem.W.findIn K (.ref C) f=some (some u)
 rel:RelV v u
 get:PySem.W.specialIn K u "__get__" = some none
 cp:PySem.W.copiedNames.contains f=false
structure Meth(K:PySem.W.Frag)(C:Addr)(m:Str)(f:Addr):Prop where
 at_:PySem.W.findIn K (.ref C) m=some (some (.ref f))
 fn:isFn K (.ref f)=true
 kp:keepIn K (.ref f)=true
section
variable{X:Cx}{pins:List (Addr×Obj)}{σ:St}{H:Hp}{s:Shared}{a C dx:Addr}{fs:List (Str×V)}{f:Str}{v:V}{A:Around}{E:Value->Shared->Prop}
theorem ZcY {b:Bool} {Q:Value->Shared->Prop} (I:Inv X pins σ H s) (e:H a=some (.ins C dx fs)) (c:Cls X.K C) (n:NoAttr X.K C f) (l:fs.lookup f=some v)
 (h:∀u s',Inv X pins σ H s'->RelV v u->Q u s'):wpAny (model X.prog X.w) A (getAttr (.ref a) f b) Q E s:=by
 obtain⟨mA,O,r,_,_,_⟩:=QM I.hok e;obtain⟨u,hu,ru⟩:=RelO.some_of (v:=v) (o:=mA f) (by rw [<-l];exact r f);exact Zg7 I.kIn O (c.get f) c.hd n hu (Zen ru) (h u _ (I.tok _) ru)
theorem ZcZ {m:Str} {g:Addr} {pl:Sem Bool} {Q:Value×List Value->Shared->Prop} (I:Inv X pins σ H s) (e:H a=some (.ins C dx fs)) (c:Cls X.K C) (k:Meth X.K C m g) (l:fs.lookup m=none)
 (h:Q (.ref g,[.ref a]) s):wpAny (model X.prog X.w) A (getMethod (.ref a) m pl) Q E s:=by
 obtain⟨mA,O,r,_,_,_⟩:=QM I.hok e;have hn:mA m=none:=RelO.none_of (by rw [<-l];exact r m);exact Ze5 I.kIn O (c.get m) k.at_ k.fn hn h
theorem Zc0 {y:V} {u:Value} {Q:Unit->Shared->Prop} (I:Inv X pins σ H s) (e:H a=some (.ins C dx fs)) (c:Cls X.K C) (n:NoAttr X.K C f) (hl:fs.length<1000) (ry:RelV y u)
 (h:∀s',Inv X pins σ (upd H a (.ins C dx (Yz f y fs))) s'->Q () s'):wpAny (model X.prog X.w) A (setAttr (.ref a) f u) Q E s:=by
 obtain⟨mA,O,r,wi,_,ho⟩:=QM I.hok e;have hz:(fs.map (·.1)).length<=sizeLine:=by rw [List.length_map,sizeLine_eq];omega
 refine Zg8 I.kIn O c.sa c.po n.taker c.hd wi hz λh' O' sb=>h _ ?_
 have hd:∃o,h'.get? dx=some o:=let⟨o,_,_,e',_⟩:=O'.ns;⟨o,e'⟩
 refine I.write (x:=a) (e:=dx) (by rw [e];exact True.intro) (.inr ho) (λb q hb z=>(sb.2 b hb).trans z) hd ?_;refine⟨by rw [ZI O.ne];exact ho,?_,O.ne,O'.obj,_,O'.ns,λg => ?_,λg hg => ?_⟩
 · have:=ZaG f y fs;omega
 · show RelO ((Yz f y fs).lookup g) (if g=f then some u else mA g)
   rw [ZaF]
   by_cases q:g=f
   · rw [if_pos q,if_pos q];exact ry
   · rw [if_neg q,if_neg q];exact r g
 · by_cases q:g=f
   · rw [q];exact(JZ f y fs).1
   · refine(JZ f y fs).2 g (wi g λz=>hg ?_)
     show(if g=f then some u else mA g)=none;rw [if_neg q];exact z
theorem Inv.made(I:Inv X pins σ H s):Inv X pins σ (upd (upd H s.heap.objs.size (.own (s.heap.objs.size+1))) (s.heap.objs.size+1) (.ins C s.heap.objs.size []))
 { s with heap:=(s.heap.push emptyDict).push (instObj C s.heap.objs.size) }:=by
 have e1:(s.heap.push emptyDict).get? s.heap.objs.size=some emptyDict:=Heap.get?_push_size s.heap rfl
 have e2:((s.heap.push emptyDict).push (instObj C s.heap.objs.size)).get? (s.heap.objs.size+1)=some (instObj C s.heap.objs.size):=by
  have:=Heap.get?_push_size (s.heap.push emptyDict) (o:=instObj C s.heap.objs.size) rfl
  rwa [Heap.size_push]at this
 have e3:(s.heap.push emptyDict).Ns s.heap.objs.size (λ_=>none):=⟨emptyDict,#[],_,e1,rfl,(λe he=>absurd he (by simp)),λ_=>rfl⟩
 have I1:=I.laid (a:=s.heap.objs.size) (o:=.own (s.heap.objs.size+1)) (h':=s.heap.push emptyDict) (t':=s.toks) (λb u q=>Heap.get?_push_of_some _ q) (Nat.le_refl _) ⟨_,e1⟩;refine I1.laid (a:=s.heap.objs.size+1) (o:=.ins C s.heap.objs.size []) (t':=s.toks) (λb u q=>Heap.get?_push_of_some _ q) (Nat.le_of_eq (Heap.size_push _ _)) ?_;have ne:s.heap.objs.size≠s.heap.objs.size+1:=Nat.ne_of_lt (Nat.lt_succ_self _)
 refine⟨by rw [ZI ne,ZN],Nat.zero_le _,ne,e2,λ_=>none,(Heap.Ns1.of_empty e3).at λo q=>Heap.get?_push_of_some _ q,λ_=>True.intro,λy hy=>absurd rfl hy⟩
theorem Zg9 {prog:Program} {w:World} {env:Env} {e:Expr} {f:Str} {pos:Pos} {s:Shared} {Q:Value->Shared->Prop} (hb:attributeBase e f env (eval e env)=eval e env)
 (h:wpAny (model prog w) A (eval e env) (λo s₁=>wpAny (model prog w) A (getAttr o f true) Q E s₁) E s):wpAny (model prog w) A (eval (.Attribute e f pos) env) Q E s:=
 Attribute_any_ h (by rw [arm_eval_Attribute,hb])
end
def J0(K:PySem.W.Frag)(ta:TE)(f:Str):TE:=λσ H Q=>ta σ H λx H1=>∃a C dx fs v,x = .ref a/\H1 a=some (.ins C dx fs)/\Cls K C/\NoAttr K C f/\fs.lookup f=some v/\Q v H1
def Zlb(K:PySem.W.Frag)(ta tv:TE)(f:Str):TS:=λD σ H=>tv σ H λy H1=>ta σ H1 λx H2=>∃a C dx fs,x = .ref a/\H2 a=some (.ins C dx fs)/\Cls K C/\NoAttr K C f/\fs.length<1000 /\
 D.nx σ (upd H2 a (.ins C dx (Yz f y fs)))
section
variable{X:Cx}{o e value:Expr}{f:Str}{pos pos' tpos:Pos}{ta tv:TE}
theorem ZiY(he:PE X e ta)(hb:attributeBase e f X.env (eval e X.env)=eval e X.env):PE X (.Attribute e f pos) (J0 X.K ta f):=by
 intro pins s σ H Q I h;refine Zg9 hb (thn (he pins s σ H _ I h) λu s1 ⟨x,H1,I1,rx,a,C,dx,fs,v,ex,ea,c,n,l,q⟩ => ?_);subst ex;obtain rfl:u=Value.ref a:=rx;exact ZcY I1 ea c n l λu' s2 I2 ru=>⟨v,H1,I2,ru,q⟩
theorem J4(ha:PE X o ta)(hv:PE X value tv)(hs:swapsWith value (some (.Attribute o f pos')) pos.line X.env=pure false):PS X (.Assign [.Attribute o f pos'] value pos) (Zlb X.K ta tv f):=by
 intro pins s σ H D I h;refine plainObj_wpAny_Assign_Attribute (thn (hv pins s σ H _ I h) λu s1 ⟨y,H1,I1,ry,q⟩=>thn (ha pins s1 σ H1 _ I1 q) λov s2 ⟨x,H2,I2,rx,a,C,dx,fs,ex,ea,c,n,l,q2⟩ => ?_) hs;subst ex;obtain rfl:ov=Value.ref a:=rx;exact Zc0 I2 ea c n l ry λs3 I3=>⟨σ,_,I3,q2⟩
end
section
variable{X:Cx}{pins:List (Addr×Obj)}{σ:St}{H:Hp}{s:Shared}{A:Around}{E:Value->Shared->Prop}{Q:Value->Shared->Prop}{c:Value}{b:Bool}
inductive TyOf(K:PySem.W.Frag)(H:Hp):V->Value->Prop where
 |non:TyOf K H .non (.type "NoneType")
 |bl (x:Bool):TyOf K H (.bl x) (.type "bool")
 |int (i:Int):TyOf K H (.int i) (.type "int")
 |str (x:Str):TyOf K H (.str x) (.type "str")
 |flt (x:UInt64):TyOf K H (.flt x) (.type "float")
 |lst {a:Addr} {xs:List V} (e:H a=some (.lst xs)):TyOf K H (.ref a) (.type "list")
 |frz {a:Addr} {o:Obj} {xs:List V} (e:H a=some (.frz o (.lst xs))):TyOf K H (.ref a) (.type "list")
 |tup {a:Addr} {xs:List V} (e:H a=some (.tup xs)):TyOf K H (.ref a) (.type "tuple")
 |dK {a:Addr} {kvs:List (Key×V)} (e:H a=some (.dK kvs)):TyOf K H (.ref a) (.type "dict")
 |dT {a:Addr} {kvs:List (List Key×V)} (e:H a=some (.dT kvs)):TyOf K H (.ref a) (.type "dict")
 |ins {a C dx:Addr} {fs:List (Str×V)} (e:H a=some (.ins C dx fs)) (cl:Cls K C) (ha:PySem.W.findIn K (.ref C) "__class__" = some (some (.builtin "object.__class__")))
  (hn:PySem.W.specialIn K (.builtin "object.__class__") "__get__" = some (some (.builtin "getset_descriptor.__get__"))) (htk:PySem.W.takesIn K (.builtin "object.__class__")=some true)
  (hm:PySem.W.mroIn K C (.type "object")=some true):TyOf K H (.ref a) (.ref C)
theorem Zeo{x:V}{u t:Value}(I:Inv X pins σ H s)(rx:RelV x u)(ty:TyOf X.K H x t)(e:kitOne X.K t c=some b)(h:∀tk,Q (.bool b) { s with toks:=tk }) :
 wpAny (model X.prog X.w) A (call (.builtin "isinstance") [u,c]) Q E s:=by
 cases ty with
 |non=>cases(show u=Value.none from rx);exact PySem.W.kia_one PySem.W.kitx_none I.kIn True.intro e (λz=>nomatch z) h
 |bl y=>cases(show u=Value.bool y from rx);exact PySem.W.kia_one PySem.W.kitx_bool I.kIn True.intro e (λz=>nomatch z) h
 |int i=>obtain⟨t,q⟩:=(show ∃t,u=Value.int i t from rx);cases q;exact PySem.W.kia_one PySem.W.kitx_int I.kIn True.intro e (λz=>nomatch z) h
 |str y=>obtain⟨t,q⟩:=(show ∃t,u=Value.str y t from rx);cases q;exact PySem.W.kia_one PySem.W.kitx_str I.kIn True.intro e (λz=>nomatch z) h
 |flt y=>obtain⟨t,q⟩:=(show ∃t,u=Value.float y t from rx);cases q;exact PySem.W.kia_one PySem.W.kitx_float I.kIn True.intro e (λz=>nomatch z) h
 | @lst a xs ea=>
  cases(show u=Value.ref a from rx);obtain⟨_,_,n,_,h1⟩:=(show ObjOk X.prog X.w H s.heap a (.lst xs)from I.hok a _ ea)
  exact PySem.W.kia_one PySem.W.kitx_list I.kIn ⟨_,h1,rfl⟩ e (λz=>nomatch z) h
 | @frz a ob xs ea=>
  cases(show u=Value.ref a from rx);obtain⟨_,_,_,n,_,h1⟩:=(show ObjOk X.prog X.w H s.heap a (.frz ob (.lst xs))from I.hok a _ ea)
  exact PySem.W.kia_one PySem.W.kitx_list I.kIn ⟨_,h1,rfl⟩ e (λz=>nomatch z) h
 | @tup a xs ea=>
  cases(show u=Value.ref a from rx);obtain⟨_,_,_,p⟩:=(show ObjOk X.prog X.w H s.heap a (.tup xs)from I.hok a _ ea)
  obtain⟨o,h1,h2,_⟩:=p;exact PySem.W.kia_one PySem.W.kitx_tuple I.kIn ⟨o,h1,h2⟩ e (λz=>nomatch z) h
 | @dK a kvs ea=>
  cases(show u=Value.ref a from rx);obtain⟨_,_,vs,_,p⟩:=(show ObjOk X.prog X.w H s.heap a (.dK kvs)from I.hok a _ ea)
  obtain⟨o,es,ep,h1,h2,_⟩:=p;exact PySem.W.kia_one PySem.W.kitx_dict I.kIn ⟨o,h1,h2.1⟩ e (λz=>nomatch z) h
 | @dT a kvs ea=>
  cases(show u=Value.ref a from rx);obtain⟨_,_,xs,_,o,es,ep,h1,h2,_⟩:=(show ObjOk X.prog X.w H s.heap a (.dT kvs)from I.hok a _ ea)
  exact PySem.W.kia_one PySem.W.kitx_dict I.kIn ⟨o,h1,h2.1⟩ e (λz=>nomatch z) h
 | @ins a C dx fs ea cl ha hn htk hm=>
  cases(show u=Value.ref a from rx);obtain⟨mA,O,_⟩:=QM I.hok ea;obtain⟨od,J,_⟩:=O.look;exact PySem.W.kia_one (PySem.W.kitx_own (cl.get _) cl.hd ha hn htk hm) I.kIn J e (λz=>nomatch z) h
end
end L2
namespace L2
open PySem PySem.Spec PyProof.Rows
structure Room(k:Nat)(A:Around):Prop where
 hd:A.handled=none
 dp:A.depth+3*k+5<recursionLimit
 un:A.units+16*k+200<cLine
theorem Room.mono{j k:Nat}{A:Around}(r:Room k A)(h:j<=k):Room j A:=⟨r.hd,by have:=r.dp;omega,by have:=r.un;omega⟩
theorem Room.deeper{k:Nat}{A:Around}(r:Room (k+1) A)(env:Env):Room k (A.deeper env):=
 ⟨r.hd,by have:=r.dp;show A.depth+1+3*k+5<_;omega,by have:=r.un;show A.units+3+16*k+200<_;omega⟩
theorem Zc1{A:Around}{C:Addr}{us:List Value}{kw:List (Str×Value)}:(A.under (.builtin "type.__call__" ⟨.ref C::us,kw⟩)).depth=A.depth+1:=by
 first|rfl|simp [Around.under,Code.weight,Code.isCreation,Code.isGuard,Code.isCaller,Code.frames,Code.isFrame,guardIds]
theorem Zc2{A:Around}{C:Addr}{us:List Value}{kw:List (Str×Value)}:(A.under (.builtin "type.__call__" ⟨.ref C::us,kw⟩)).units=A.units+1:=by
 first|rfl|simp [Around.under,Code.cUnits,Code.frames,Code.isFrame]
theorem Room.make{k:Nat}{A:Around}(r:Room (k+1) A)(C:Addr)(us:List Value)(kw:List (Str×Value)):Room k (A.under (.builtin "type.__call__" ⟨.ref C::us,kw⟩)):=
 ⟨r.hd,by have:=r.dp;rw [Zc1];omega,by have:=r.un;rw [Zc2];omega⟩
theorem Room.depth{k:Nat}{A:Around}(r:Room k A):A.depth<recursionLimit:=by have:=r.dp;omega
theorem Room.units{k:Nat}{A:Around}(r:Room k A):A.units+64<cLine:=by have:=r.un;omega
def tNil:TA:=λ_ H Q=>Q [] H
def XV(ta:TE)(tr:TA):TA:=λσ H Q=>ta σ H λx H1=>tr σ H1 λxs H2=>Q (x::xs) H2
section
variable{X:Cx}{e:Expr}{es:List Expr}{te:TE}{t:TA}{pos:Pos}
theorem Zj:PA X [] tNil:=λ_ _ _ _ H Q I h=>Calls.spliced_nil ⟨[],H,I,.nil,h⟩
theorem Zd(ha:PE X e te)(hr:PA X es t)(hs:starEach (e::es) X.env=(false,eval e X.env)::starEach es X.env:=by rfl):PA X (e::es) (XV te t):=by
 intro pos pins s σ H Q I h;rw [hs];show wpAny _ _ (spliced ((false,eval e X.env)::backTo pos (starEach es X.env))) _ _ s;refine Calls.spliced_cons (thn (ha pins s σ H _ I h) λu s1 ⟨x,H1,I1,r1,q1⟩ => ?_);exact thn (hr pos pins s1 σ H1 _ I1 q1) λus s2 ⟨xs,H2,I2,r2,q2⟩=>⟨x::xs,H2,I2,.cons r1 r2,q2⟩
def Zlc(t:TA):TE:=λσ H Q=>t σ H λxs H1=>xs.length<=sizeLine/\∀p,H1 p=none->Q (.ref p) (upd H1 p (.tup xs))
def J5(t:TA):TE:=λσ H Q=>t σ H λxs H1=>xs.length<=sizeLine/\∀p,H1 p=none->Q (.ref p) (upd H1 p (.lst xs))
theorem Vv{x1}(h:PA X es t):PE X (.Tuple es x1 pos) (Zlc t):=by
 intro pins s σ H Q I hq;refine wpAny_Tuple_spliced (thn (h pos pins s σ H _ I hq) λus s1 ⟨xs,H1,I1,r,z,q⟩=>⟨by rw [<-r.length];exact z,?_⟩);have hf:H1 s1.heap.objs.size=none:=I1.hok.fresh (Nat.le_refl _);refine⟨.ref s1.heap.objs.size,upd H1 s1.heap.objs.size (.tup xs),I1.laid (t':=s1.toks) (λb u e=>Heap.get?_push_of_some _ e) (Nat.le_refl _) ?_,rfl,q _ hf⟩;exact⟨z,us,r,⟨_,Heap.get?_push_size _ rfl,rfl,⟨_,rfl⟩,rfl⟩⟩
theorem Y2(h:PA X es t):PE X (.List es pos) (J5 t):=by
 intro pins s σ H Q I hq;refine wpAny_List_spliced (thn (h pos pins s σ H _ I hq) λus s1 ⟨xs,H1,I1,r,z,q⟩=>⟨by rw [<-r.length];exact z,?_⟩);have hf:H1 s1.heap.objs.size=none:=I1.hok.fresh (Nat.le_refl _);refine⟨.ref s1.heap.objs.size,upd H1 s1.heap.objs.size (.lst xs),I1.laid (t':=s1.toks) (λb u e=>Heap.get?_push_of_some _ e) (Nat.le_refl _) ?_,rfl,q _ hf⟩;exact⟨z,us,0,r,Heap.get?_push_size _ rfl⟩
end
abbrev Sp:=List V->Hp->VK->XK->Prop
abbrev CXT:=List Env->Hp->Shared->XK->Value->Shared->Prop
structure Env0(P:Program)(w:World)(K:PySem.W.Frag)(mg:Str->Option Value)(base:Heap)(A:Around)(outer:List Env)(s:Shared)(H:Hp):Prop where
 frames:A.frames=some outer
 mod:Mod K mg base
 bs:∀b o,base.get? b=some o->s.heap.get? b=some o/\H b=none
 bsz:base.objs.size<=s.heap.objs.size
 funs:s.heap.FunFrames base outer
 frf:∀b∈frs outer,H b=none
 hok:HOk P w H s.heap
 bare:AllBare s.gens
def CE(outer:List Env)(P:Program)(w:World)(H:Hp)(s:Shared)(Q:VK)(u:Value)(s':Shared):Prop:=
 ∃v H',s'.os=s.os/\AllBare s'.gens/\Un (frs outer) [] H H' s.heap s'.heap/\HOk P w H' s'.heap/\RelV v u/\Q v H'
def CR(CX:CXT)(outer:List Env)(P:Program)(w:World)(H:Hp)(s:Shared)(Q:VK)(E:XK)(r:Result)(s':Shared):Prop:=
 match r with
 | .ok (.ret u)=>CE outer P w H s Q u s'
 | .ok _=>False
 | .error e=>CX outer H s E e s'
structure FnOk(P:Program)(w:World)(K:PySem.W.Frag)(mg:Str->Option Value)(base:Heap)(CX:CXT)(k:Nat)(f:Addr)(fd:FuncData)(ps:List Str)(sp:Sp):Prop where
 len:∀vs H Q E,sp vs H Q E->vs.length=ps.length
 run:∀(A:Around)(outer:List Env)(s:Shared)(H:Hp)(args:Args)(us:List Value)(vs:List V)(Q:VK)(E:XK),Room k A->Env0 P w K mg base A outer s H->BindsTo s fd args (ps.zip us)->Vals vs us->sp vs H Q E ->
  codeAny (model P w) A (.call (.ref f) args) (CR CX outer P w H s Q E) s
theorem FnOk.mono{P:Program}{w:World}{K:PySem.W.Frag}{mg:Str->Option Value}{base:Heap}{CX:CXT}{j k:Nat}{f:Addr}{fd:FuncData}{ps:List Str}{sp:Sp}(F:FnOk P w K mg base CX j f fd ps sp)(h:j<=k) :
 FnOk P w K mg base CX k f fd ps sp:=⟨F.len,λA outer s H args us vs Q E hr=>F.run A outer s H args us vs Q E (hr.mono h)⟩
theorem FnOk.imp {P:Program} {w:World} {K:PySem.W.Frag} {mg:Str->Option Value} {base:Heap} {CX:CXT} {k:Nat} {f:Addr} {fd:FuncData} {ps:List Str} {sp sp':Sp} (F:FnOk P w K mg base CX k f fd ps sp)
 (h:∀vs H Q E,sp' vs H Q E->sp vs H Q E):FnOk P w K mg base CX k f fd ps sp':=
 ⟨λvs H Q E q=>F.len vs H Q E (h _ _ _ _ q),λA outer s H args us vs Q E hr he hb hv hs=>F.run A outer s H args us vs Q E hr he hb hv (h _ _ _ _ hs)⟩
theorem Env0.make{P:Program}{w:World}{K:PySem.W.Frag}{mg:Str->Option Value}{base:Heap}{A:Around}{outer:List Env}{s:Shared}{H:Hp}(e:Env0 P w K mg base A outer s H)(C:Addr)(us:List Value)(kw:List (Str×Value)) :
 Env0 P w K mg base (A.under (.builtin "type.__call__" ⟨.ref C::us,kw⟩)) outer s H:=⟨by first|exact e.frames|(simpa [Around.under,Code.envs,Code.isFrame,pushEnvs]using e.frames),e.mod,e.bs,e.bsz,e.funs,e.frf,e.hok,e.bare⟩
section
variable{X:Cx}{pins:List (Addr×Obj)}{σ:St}{H:Hp}{s s':Shared}
theorem Inv.env0(I:Inv X pins σ H s):Env0 X.prog X.w X.K X.mg X.base X.A X.stack s H:=
 ⟨I.ok.frames,I.ok.mod,I.bs,Nat.le_trans I.ok.bsz I.sz,I.stack,I.stkFree,I.hok,I.bare⟩
theorem Inv.after{Q:VK}{u:Value}(I:Inv X pins σ H s)(h:CE X.stack X.prog X.w H s Q u s'):EP X pins σ Q u s':=by
 obtain⟨v,H',os,bare,un,hok,r,q⟩:=h;obtain⟨hh,g,d,t,os'⟩:=s';obtain rfl:os'=s.os:=os;exact⟨v,H',I.call (h':=hh) (g':=g) (d':=d) (t':=t) (ch:=[]) un hok bare (λb z=>absurd z (by simp)),r,q⟩
end
def Zif(sp:Sp)(dvs:List V)(E:XK)(t:TA):TE:=λσ H Q=>t σ H λvs H1=>sp (vs++dvs) H1 Q E
def Zig(C:Addr)(sp:Sp)(dvs:List V)(E:XK)(t:TA):TE:=λσ H Q=>t σ H λvs H1=>∀x dx,H1 x=none->H1 dx=none->dx≠x ->
 sp (.ref x::(vs++dvs)) (upd (upd H1 dx (.own x)) x (.ins C dx [])) (λv H2=>v = .non/\Q (.ref x) H2) E
def Binds(K:PySem.W.Frag)(fd:FuncData)(ps:List Str)(ds:List Value):Prop:=
 ∀(s:Shared)(us:List Value),K.In s.heap->(us++ds).length=ps.length->BindsTo s fd ⟨us,[]⟩ (ps.zip (us++ds))
theorem Binds.all{K:PySem.W.Frag}{fd:FuncData}{ps:List Str}(h:∀us:List Value,us.length=ps.length->bindArgs fd ⟨us,[]⟩=pure (ps.zip us)):Binds K fd ps []:=λs us _ hl=>by
 rw [List.append_nil]at hl ⊢;exact .of_eq (h us hl)
def Qg(CX:CXT)(X:Cx)(E:XK):Prop:=∀(pins:List (Addr×Obj))(σ:St)(H:Hp)(s:Shared)(e:Value)(s':Shared),Inv X pins σ H s->CX X.stack H s E e s'->X.xe e s'
section
variable{X:Cx}{CX:CXT}{k:Nat}{f C:Addr}{fd:FuncData}{ps:List Str}{sp:Sp}{dvs:List V}{ds:List Value}{E:XK}{x m:Str}{p pos apos:Pos}{e o:Expr}{es:List Expr}{ta:TE}{t:TA}
theorem Zf6 {pins:List (Addr×Obj)} {σ:St} {H:Hp} {s:Shared} {Q:VK} {us:List Value} {vs:List V} (F:FnOk X.prog X.w X.K X.mg X.base CX k f fd ps sp) (hr:Room k X.A) (hb:Binds X.K fd ps ds) (hd:Vals dvs ds) (hx:Qg CX X E)
 (I:Inv X pins σ H s) (r:Vals vs us) (h:sp (vs++dvs) H Q E):wpAny (model X.prog X.w) X.A (call (.ref f) us) (EP X pins σ Q) X.xe s:=by
 have r2:Vals (vs++dvs) (us++ds):=r.append hd;have hl:(us++ds).length=ps.length:=by rw [<-r2.length];exact F.len _ _ _ _ h
 refine wpAny_call (codeAny_mono (F.run X.A X.stack s H ⟨us,[]⟩ (us++ds) (vs++dvs) Q E hr I.env0 (hb s us I.kIn hl) r2 h) λr s' hq => ?_);cases r with
 |error e=>exact hx pins σ H s e s' I hq
 |ok fl=>
  cases fl with
  |ret u=>exact I.after hq
  |next=>exact False.elim hq
  |brk=>exact False.elim hq
  |cont=>exact False.elim hq
theorem Yd (F:FnOk X.prog X.w X.K X.mg X.base CX k f fd ps sp) (hr:Room k X.A) (hg:Gl X x) (hm:X.mg x=some (.ref f)) (hk:keepIn X.K (.ref f)=true) (hb:Binds X.K fd ps ds) (hd:Vals dvs ds) (hx:Qg CX X E)
 (ha:PA X (e::es) t) (hdb:(x == ("__debug__" : Str))=false:=by decide) (he:starEach (e::es) X.env=(false,eval e X.env)::starEach es X.env:=by rfl) (hpl:(backTo pos (starEach es X.env)).any (·.1)=false:=by rfl) :
 PE X (.Call (.Name x p) (e::es) [] pos) (Zif sp dvs E t):=by
 intro pins s σ H Q I h;refine wpAny_Call_Name_kw (JM I hg hm ?_ hdb);refine PySem.W.callWith_K (h₀:=X.base) I.ok.mod.kin hk (thn (ha pos pins s σ H _ I h) λus s1 ⟨vs,H1,I1,r,q⟩=>⟨I1.kIn,?_⟩) he hpl;exact Zf6 F hr hb hd hx I1 r q
structure Mk(K:PySem.W.Frag)(C f:Addr):Prop where
 makes:PySem.W.makesIn K C=true
 init:PySem.W.findIn K (.ref C) "__init__" = some (some (.ref f))
 fn:isFn K (.ref f)=true
 kp:keepIn K (.ref C)=true
theorem Ze7 {pins:List (Addr×Obj)} {σ:St} {H:Hp} {s:Shared} {Q:VK} {us:List Value} {vs:List V} (M:Mk X.K C f) (F:FnOk X.prog X.w X.K X.mg X.base CX k f fd ps sp) (hr:Room (k+1) X.A) (hb:Binds X.K fd ps ds) (hd:Vals dvs ds)
 (hx:Qg CX X E) (I:Inv X pins σ H s) (r:Vals vs us)
 (h:∀x dx,H x=none->H dx=none->dx≠x->sp (.ref x::(vs++dvs)) (upd (upd H dx (.own x)) x (.ins C dx [])) (λv H2=>v = .non/\Q (.ref x) H2) E) :
 wpAny (model X.prog X.w) X.A (call (.ref C) us) (EP X pins σ Q) X.xe s:=by
 have hq:=h (s.heap.objs.size+1) s.heap.objs.size (I.hok.fresh (Nat.le_succ _)) (I.hok.fresh (Nat.le_refl _)) (Nat.ne_of_lt (Nat.lt_succ_self _));have I2:=Inv.made (C:=C) I;have r2:Vals (V.ref (s.heap.objs.size+1)::(vs++dvs)) (Value.ref (s.heap.objs.size+1)::(us++ds)) := .cons rfl (r.append hd)
 have hl:(Value.ref (s.heap.objs.size+1)::us++ds).length=ps.length:=by
  have e:=r2.length;rw [F.len _ _ _ _ hq]at e;exact e.symm
 refine wpAny_call (Ze6 (f:=f) I.kIn M.makes M.init (beq_iff_eq.mp M.fn) (codeAny_mono (F.run _ X.stack _ _ ⟨Value.ref (s.heap.objs.size+1)::us,[]⟩ (Value.ref (s.heap.objs.size+1)::(us++ds)) _ _ E (hr.make C us [])
  (I2.env0.make C us []) (hb _ (Value.ref (s.heap.objs.size+1)::us) I2.kIn hl) r2 hq) λr s' hq' => ?_))
 cases r with
 |error e=>exact hx pins σ _ _ e s' I2 hq'
 |ok fl=>
  cases fl with
  |ret u=>
   obtain⟨v,H',I3,rv,ev,q3⟩:=I2.after hq';subst ev;exact⟨rv,⟨V.ref (s.heap.objs.size+1),H',I3,rfl,q3⟩⟩
  |next=>exact False.elim hq'
  |brk=>exact False.elim hq'
  |cont=>exact False.elim hq'
theorem QN (M:Mk X.K C f) (F:FnOk X.prog X.w X.K X.mg X.base CX k f fd ps sp) (hr:Room (k+1) X.A) (hg:Gl X x) (hm:X.mg x=some (.ref C)) (hb:Binds X.K fd ps ds) (hd:Vals dvs ds) (hx:Qg CX X E)
 (ha:PA X (e::es) t) (hdb:(x == ("__debug__" : Str))=false:=by decide) (he:starEach (e::es) X.env=(false,eval e X.env)::starEach es X.env:=by rfl) (hpl:(backTo pos (starEach es X.env)).any (·.1)=false:=by rfl) :
 PE X (.Call (.Name x p) (e::es) [] pos) (Zig C sp dvs E t):=by
 intro pins s σ H Q I h;refine wpAny_Call_Name_kw (JM I hg hm ?_ hdb);refine PySem.W.callWith_K (h₀:=X.base) I.ok.mod.kin M.kp (thn (ha pos pins s σ H _ I h) λus s1 ⟨vs,H1,I1,r,q⟩=>⟨I1.kIn,?_⟩) he hpl;exact Ze7 M F hr hb hd hx I1 r q
end
section
variable{X:Cx}{CX:CXT}{k:Nat}{f C:Addr}{fd:FuncData}{ps ks:List Str}{sp:Sp}{E:XK}{x m:Str}{p pos apos kpos:Pos}{e o:Expr}{es:List Expr}{kws:List Keyword}{te ta:TE}{t tk:TA}{nm:Option Str}
structure KBinds(K:PySem.W.Frag)(fd:FuncData)(ps ks:List Str)(g:List Value->List Value->List Value)(gV:List V->List V->List V):Prop where
 to:∀(s:Shared)(us ws:List Value),K.In s.heap->(g us ws).length=ps.length->BindsTo s fd ⟨us,ks.zip ws⟩ (ps.zip (g us ws))
 rel:∀{vs:List V}{us:List Value}{zs:List V}{ws:List Value},Vals vs us->Vals zs ws->Vals (gV vs zs) (g us ws)
variable{g:List Value->List Value->List Value}{gV:List V->List V->List V}
end
structure FnScope(N P:List Str)(sc:Scope):Prop where
 kind:sc.kind = .function
 co:sc.isCoroutine=false
 gen:sc.isGenerator=false
 nd:N.Nodup
 pre:N.take P.length=P
 par:∀x∈P,sc.names.lookup x=some .local\/sc.names.lookup x=some .cell
 nofree:∀y∈sc.names,y.2 ≠ .free
theorem Zbg{kindOf:Str->Option NameKind}{x:Str}:∀{binds:List (Str×Value)}{m:Str->Option Value},(∀v,(x,v)∉binds)->bindL kindOf binds m x=m x
 | [],_,_=>rfl
 |(n,v)::r,m,h=>by
  unfold bindL;rw [Zbg λw hw=>h w (List.mem_cons_of_mem _ hw)]
  split
  · have:x≠n:=by rintro rfl;exact h v List.mem_cons_self
    simp [this]
  · rfl
theorem Zbh{kindOf:Str->Option NameKind}{x:Str}:∀{binds:List (Str×Value)}{m:Str->Option Value},(∀v,(x,v)∉binds)->bindC kindOf binds m x=m x
 | [],_,_=>rfl
 |(n,v)::r,m,h=>by
  unfold bindC;rw [Zbh λw hw=>h w (List.mem_cons_of_mem _ hw)]
  split
  · rfl
  · have:x≠n:=by rintro rfl;exact h v List.mem_cons_self
    simp [this]
theorem Zbi{kindOf:Str->Option NameKind}{x:Str}{v:Value}:∀{P:List Str}{vs:List Value}{i:Nat}{m:Str->Option Value},P.Nodup->P[i]? = some x->vs[i]? = some v->kindOf x=some .local ->
 bindL kindOf (P.zip vs) m x=some v
 | [],_,_,_,_,h,_,_=>by simp at h
 |_::_,[],_,_,_,_,h,_=>by simp at h
 |p::P,w::vs,0,m,nd,h1,h2,hk=>by
  simp at h1 h2;subst h1;subst h2;show bindL kindOf ((p,w)::P.zip vs) m p=_;unfold bindL;rw [Zbg λv hv=>(List.nodup_cons.mp nd).1 (List.of_mem_zip hv).1,if_pos hk];simp
 |p::P,w::vs,i+1,m,nd,h1,h2,hk=>by
  show bindL kindOf ((p,w)::P.zip vs) m x=_;unfold bindL;exact Zbi (i:=i) (List.nodup_cons.mp nd).2 (by simpa using h1) (by simpa using h2) hk
theorem Zbj{kindOf:Str->Option NameKind}{x:Str}{v:Value}:∀{P:List Str}{vs:List Value}{i:Nat}{m:Str->Option Value},P.Nodup->P[i]? = some x->vs[i]? = some v->kindOf x≠some .local ->
 bindC kindOf (P.zip vs) m x=some v
 | [],_,_,_,_,h,_,_=>by simp at h
 |_::_,[],_,_,_,_,h,_=>by simp at h
 |p::P,w::vs,0,m,nd,h1,h2,hk=>by
  simp at h1 h2;subst h1;subst h2;show bindC kindOf ((p,w)::P.zip vs) m p=_;unfold bindC;rw [Zbh λv hv=>(List.nodup_cons.mp nd).1 (List.of_mem_zip hv).1,if_neg hk];simp
 |p::P,w::vs,i+1,m,nd,h1,h2,hk=>by
  show bindC kindOf ((p,w)::P.zip vs) m x=_;unfold bindC;exact Zbj (i:=i) (List.nodup_cons.mp nd).2 (by simpa using h1) (by simpa using h2) hk
def start(N:List Str)(vs:List V):St:=vs.map some++List.replicate (N.length-vs.length) none
def XW(CX:CXT)(P:Program)(w:World)(K:PySem.W.Frag)(mg:Str->Option Value)(base:Heap)(N:List Str)(qual:Str)(scope:Scope)(f:Addr)(cd:Value)(A:Around)(outer:List Env)(s:Shared)(H:Hp)(E:XK):Cx where
 prog:=P
 w:=w
 K:=K
 mg:=mg
 base:=base
 A:=A.deeper (envOfC qual scope s.heap.objs.size f cd)
 N:=N
 s₀:=s
 H₀:=H
 env:=envOfC qual scope s.heap.objs.size f cd
 outer:=outer
 stack:=envOfC qual scope s.heap.objs.size f cd::outer
 ex:=[]
 calm:=true
 fn:=λ_=>true
 pn:=[]
 xe:=λe s'=>wpAny (model P w) (A.deeper (envOfC qual scope s.heap.objs.size f cd)) (leaving (envOfC qual scope s.heap.objs.size f cd) e) (λ_ s''=>CX outer H s E e s'') (λe' s''=>CX outer H s E e' s'') s'
theorem Zcn{sc:Scope}{n:Nat}{x:Str}(h:sc.names.lookup x=some .cell):∃c,(cellsFrom n sc.names []).lookup x=some c:=by
 have q:=PySem.W.cellsFrom_some sc.names n [] (.inl h);exact Option.isSome_iff_exists.mp q
theorem Zep {CX:CXT} {P:Program} {w:World} {K:PySem.W.Frag} {mg:Str->Option Value} {base:Heap} {N ps:List Str} {qual:Str} {scope:Scope} {f:Addr} {cd:Value} {A:Around} {outer:List Env} {s s1:Shared} {H:Hp} {E:XK} {us:List Value} {vs:List V}
 (S:FnScope N ps scope) (hd:A.handled=none) (e0:Env0 P w K mg base A outer s H) (hl:vs.length=ps.length) (r:Vals vs us)
 (x:InCallC s s.heap.objs.size (bindL (envOfC qual scope s.heap.objs.size f cd).kindOf (ps.zip us) λ_=>none) (cellsFrom (s.heap.objs.size+1) scope.names []) (bindC (envOfC qual scope s.heap.objs.size f cd).kindOf (ps.zip us) λ_=>none) s1) :
 Inv (XW CX P w K mg base N qual scope f cd A outer s H E) [] (start N vs) H s1:=by
 have hpl:ps.length<=N.length:=by have:=congrArg List.length S.pre;rw [List.length_take]at this;omega
 obtain⟨h1,tk,rfl,hk⟩:=x.done;have noA:∀b:Addr,b∉(XW CX P w K mg base N qual scope f cd A outer s H E).ex:=λb z=>absurd (show b∈([]:List Addr)from z) (by simp)
 refine⟨⟨e0.mod,S.kind,rfl,rfl,Nat.le_refl _,λy z c h1 h2 => ?_,λy hy => ?_,λy c _ h => ?_,λ_=>hd,Around.frames_deeper e0.frames,.inr ⟨rfl,rfl⟩,λb z=>absurd z (noA b),e0.bs,e0.bsz,λb _ _=>noA b,λb z=>absurd z (noA b),e0.funs,e0.frf⟩,
  rfl,e0.bare,Un.kept hk,⟨_,x.toInCall.ns,λi y v h1 h2 h3 => ?_⟩,λy c h=>⟨_,x.cell y c h⟩,e0.hok.fresh (Nat.le_refl _),λy c h => ?_,λp hp=>absurd (show p∈([]:List (Addr×Obj))from hp) (by simp),e0.hok.kept hk,?_⟩
 · exact name_of_addr x.apart (PySem.mem_of_lookup h1) (PySem.mem_of_lookup h2)
 · have hy:scope.names.lookup y=some .cell\/scope.names.lookup y=some .free:=hy
   rcases hy with hy|hy
   · exact Zcn hy
   · exact absurd rfl (S.nofree _ (PySem.mem_of_lookup hy))
 · exact Nat.le_of_lt (x.above y c (PySem.mem_of_lookup h))
 · have hi : i < vs.length := by
    unfold start at h2
    by_cases hi:i<vs.length
    · exact hi
    · rw [List.getElem?_append_right (by simpa using hi)]at h2
      rw [List.getElem?_replicate]at h2
      split at h2<;>cases h2
   have ha:vs[i]? = some v:=by
    unfold start at h2;rw [List.getElem?_append_left (by simpa using hi),List.getElem?_map]at h2;cases e:vs[i]? with
    |none=>rw [e]at h2;cases h2
    |some a=>rw [e]at h2;cases h2;rfl
   obtain⟨u,hu,rv⟩:=r.get ha
   have hp:ps[i]? = some y:=by
    rw [<-S.pre,List.getElem?_take_of_lt (by omega)];exact h1
   have ndP:ps.Nodup:=by rw [<-S.pre];exact S.nd.sublist (List.take_sublist _ _)
   refine⟨u,rv,?_⟩;rcases S.par y (List.mem_of_getElem? hp)with k|k
   · exact .inl ⟨k,Zbi ndP hp hu k⟩
   · obtain⟨c,e⟩:=Zcn (n:=s.heap.objs.size+1) k
     refine .inr ⟨.inl k,c,e,?_⟩;have q:=x.cell y c e;rw [Zbj ndP hp hu (by show scope.names.lookup y≠_;rw [k];decide)]at q;exact q
 · exact e0.hok.fresh (Nat.le_of_lt (x.above y c (PySem.mem_of_lookup h)))
 · unfold start
   show _=N.length;rw [List.length_append,List.length_map,List.length_replicate];omega
theorem Zih {CX:CXT} {P:Program} {w:World} {K:PySem.W.Frag} {mg:Str->Option Value} {base:Heap} {k:Nat} {f:Addr} {name qual:Str} {params:Arguments} {body:List Stmt} {scope:Scope} {dV kV doc pm cdv ct oc:Value} {an od:Option Addr}
 {osl:Array (Option Value)} {N ps:List Str} {sp:Sp} (lk:K.lookup f=some ⟨oc,od,.func (fnOf name qual params body scope dV kV doc pm an cdv ct),osl⟩) (hcd:codeIn K cdv qual=true) (S:FnScope N ps scope)
 (len:∀vs H Q E,sp vs H Q E->vs.length=ps.length)
 (hbody:∀(A:Around)(outer:List Env)(s:Shared)(H:Hp)(vs:List V)(Q:VK)(E:XK),Room k (A.deeper (envOfC qual scope s.heap.objs.size f cdv))->sp vs H Q E ->
   ∃t,PSs (XW CX P w K mg base N qual scope f cdv A outer s H E) body t/\t { nx:=λ_ H'=>Q .non H',rt:=Q } (start N vs) H) :
 FnOk P w K mg base CX (k+1) f (fnOf name qual params body scope dV kV doc pm an cdv ct) ps sp:=by
 refine⟨len,λA outer s H args us vs Q E hr e0 hb r hsp => ?_⟩;have hl:=len _ _ _ _ hsp;have KX:K.In s.heap:=e0.mod.kin.keeps λb o e=>(e0.bs b o e).1
 have lim:s.heap.NoLimit:=e0.mod.nolimit.keeps λb o e=>(e0.bs b o e).1
 have hkind:∀y∈ps.zip us,scope.names.lookup y.1=some .local\/(scope.names.lookup y.1=some .cell/\((cellsFrom (s.heap.objs.size+1) scope.names []).lookup y.1).isSome=true):=λ⟨n,v⟩ hy=>by
  rcases S.par n (List.of_mem_zip hy).1 with q|q
  · exact .inl q
  · exact .inr ⟨q,PySem.W.cellsFrom_some _ _ _ (.inl q)⟩
 refine codeAny_call_function hr.depth (KX _ _ lk) rfl S.co S.gen rfl (PySem.W.codeRec_of KX hcd) (hb _ _ _ _ ?_);refine wpAny_newFunctionEnv_cells S.kind hkind λenv he s1 x => ?_
 subst he;refine⟨lim.keeps x.toInCall.keep,codeAny_func ?_⟩;obtain⟨t,ht,hq⟩:=hbody A outer s H vs Q E (hr.deeper _) hsp;have I:Inv (XW CX P w K mg base N qual scope f cdv A outer s H E) [] (start N vs) H s1:=Zep S hr.hd e0 hl r x;refine wpAny_mono (ht [] s1 (start N vs) H _ I hq) (λfl s' hs => ?_) λe s' hs=>hs
 have fin:∀{σ':St}{H':Hp}{v:V}{u:Value},Inv (XW CX P w K mg base N qual scope f cdv A outer s H E) [] σ' H' s'->RelV v u->Q v H'->CE outer P w H s Q u s':=
  λ{σ' H' v u} J rv q=>⟨v,H',J.os,J.bare,J.base,J.hok,rv,q⟩
 cases fl with
 |ret u=>
  obtain⟨v,σ',H',J,rv,q⟩:=hs;exact fin J rv q
 |next=>
  obtain⟨σ',H',J,q⟩:=hs;exact fin (v:=V.non) (u:=Value.none) J rfl q
 |brk=>
  obtain⟨_,_,_,q⟩:=hs;exact False.elim q
 |cont=>
  obtain⟨_,_,_,q⟩:=hs;exact False.elim q
end L2
namespace L2
open PySem PySem.Spec PyProof.Rows
section
variable{X:Cx}{x:Str}{p pos:Pos}{e:Expr}{es:List Expr}{t:TA}{id T:String}{r:List V->Hp->VK->Prop}
def tCB(r:List V->Hp->VK->Prop)(t:TA):TE:=λσ H Q=>t σ H λvs H1=>r vs H1 Q
theorem ZT (hc:Z6 X (.builtin id) r) (hg:Gl X x) (hm:X.mg x=none) (hv:bootBuiltins x=some (.builtin id)) (ha:PA X (e::es) t) (hn:x ≠ "__name__" := by decide) (hdb:(x == ("__debug__" : Str))=false:=by decide)
 (he:starEach (e::es) X.env=(false,eval e X.env)::starEach es X.env:=by rfl) (hpl:(backTo pos (starEach es X.env)).any (·.1)=false:=by rfl):PE X (.Call (.Name x p) (e::es) [] pos) (tCB r t):=by
 intro pins s σ H Q I h;refine wpAny_Call_Name_kw (Va I hg hm hv ?_ hn hdb);exact PyProof.Rows.callWith_builtin1 (thn (ha pos pins s σ H _ I h) λus s1 ⟨vs,H1,I1,r1,q1⟩=>hc pins s1 σ H1 vs us Q I1 r1 q1) he hpl
theorem Yq (hc:Z6 X (.type T) r) (hg:Gl X x) (hm:X.mg x=none) (hv:bootBuiltins x=some (.type T)) (ha:PA X (e::es) t) (hn:x ≠ "__name__" := by decide) (hdb:(x == ("__debug__" : Str))=false:=by decide)
 (he:starEach (e::es) X.env=(false,eval e X.env)::starEach es X.env:=by rfl) (hpl:(backTo pos (starEach es X.env)).any (·.1)=false:=by rfl):PE X (.Call (.Name x p) (e::es) [] pos) (tCB r t):=by
 intro pins s σ H Q I h;refine wpAny_Call_Name_kw (Va I hg hm hv ?_ hn hdb);exact PyProof.Rows.callWith_type1 (thn (ha pos pins s σ H _ I h) λus s1 ⟨vs,H1,I1,r1,q1⟩=>hc pins s1 σ H1 vs us Q I1 r1 q1) he hpl
end
end L2
namespace HT
open PySem PyProof.Rows
section
open PySem.SeqAt
open PySem.AutoSeq1 (wpAny_loadPart')
open PySem.MeetsSeq PySem.MeetsSeq2 PySem.MeetsSeq3
end
section
variable{prog:Program}{w:World}{A:Around}{E:Value->Shared->Prop}{s:Shared}
theorem cat_tup {t b:Addr} {vs ws:List Value} {Q:Value->Shared->Prop} (ht:IsTup s.heap t vs.toArray) (hb:IsTup s.heap b ws.toArray) (hv:vs≠[])
 (h1:ws=[]->Q (.ref t) s) (h2:ws≠[]->Q (.ref s.heap.objs.size) { s with heap:=s.heap.push { cls := .type "tuple",data := .seq (vs++ws).toArray } })
 (hsz:vs.length+ws.length<=sizeLine):wpAny (model prog w) A (binaryOp .Add (.ref t) (.ref b)) Q E s:=by
 obtain⟨⟨cls,dd,data,sl⟩,ho,hc,n,hd⟩:=id ht;obtain⟨⟨cls2,dd2,data2,sl2⟩,ho2,hc2,n2,hd2⟩:=id hb;simp only at hc hd hc2 hd2;subst hc hd hc2 hd2;have e:vs.toArray++ws.toArray=(vs++ws).toArray:=by simp
 by_cases hw:ws=[]
 · exact concat_meets ⟨_, ho, rfl⟩ ⟨_, ho2, rfl⟩ noFill_tuple_add seq_tuple_add PySem.F.slot_tuple_add PySem.F.entry_tuple_add (PySem.F.args_tuple_add_2 _ _)
    (tuple_addW1 t b vs.toArray ws.toArray n n2 dd dd2 sl sl2 (by simpa using hv) (by simp [hw])) ⟨ho,ho2,h1 hw⟩
 · refine concat_meets ⟨_, ho, rfl⟩ ⟨_, ho2, rfl⟩ noFill_tuple_add seq_tuple_add PySem.F.slot_tuple_add PySem.F.entry_tuple_add (PySem.F.args_tuple_add_2 _ _)
    (tuple_addW2 t b vs.toArray ws.toArray n n2 dd dd2 sl sl2 (by simpa using hv) (by simpa using hw) (by rw [List.size_toArray,List.size_toArray];exact hsz)) ⟨ho,ho2,?_⟩
   rw [e];exact h2 hw
def sIx(n d:Nat):Option Int->Nat
 |none=>d
 |some v=>if v<0 then(v+(n:Int)).toNat else min v.toNat n
theorem ZiZ(n d:Nat)(hd:d<=n)(o:Option Int):sIx n d o<=n:=by
 cases o with
 |none=>exact hd
 |some v=>
  show(if v<0 then(v+(n:Int)).toNat else min v.toNat n)<=n
  by_cases hv:v<0
  · rw [if_pos hv];omega
  · rw [if_neg hv];exact Nat.min_le_right _ _
theorem ZdH(v:Int)(n d:Nat):(if v<0 then max (v+(n:Int)) 0 else min v (n:Int))=((sIx n d (some v):Nat):Int):=by
 show(if v<0 then max (v+(n:Int)) 0 else min v (n:Int))=(((if v<0 then(v+(n:Int)).toNat else min v.toNat n):Nat):Int)
 by_cases hv:v<0
 · simp only [if_pos hv];omega
 · simp only [if_neg hv];omega
theorem Zc3(lo hi:Option Int)(n:Nat):Builtin.Slice.sliceAdjust lo hi 1 (n:Int)=(((sIx n 0 lo:Nat):Int),((sIx n n hi:Nat):Int)):=by
 have h1:¬((1:Int)<0):=by omega
 unfold Builtin.Slice.sliceAdjust;simp only [h1,if_false];refine Prod.ext ?_ ?_
 · cases lo with
   |none=>rfl
   |some v=>exact ZdH v n 0
 · cases hi with
   |none=>rfl
   |some v=>exact ZdH v n n
theorem Zc4(i j:Nat):Builtin.Slice.slicePlaces (i:Int) (j:Int) 1=j-i:=by
 unfold Builtin.Slice.slicePlaces;have h1:(1:Int)>0:=by omega
 simp only [h1,if_true,Int.ediv_one]
 split<;>omega
theorem ZaS{v:Value}{o:Option Int}{Q:Option Int->Shared->Prop}(p:IsPart v o)(h:Q o s):wpAny (model prog w) A (Builtin.Slice.slicePartIndex v) Q E s:=by
 cases p with
 |none=>exact slicePart_none h
 |int i t=>exact slicePart_int h
theorem Zaq {sl:Addr} {vl vu:Value} {lo hi:Option Int} {n:Nat} {Q:Int×Int×Nat->Shared->Prop} (hs:s.heap.IsSliceOf sl vl vu .none) (pl:IsPart vl lo) (pu:IsPart vu hi)
 (h:Q (((sIx n 0 lo:Nat):Int),1,sIx n n hi-sIx n 0 lo) s):wpAny (model prog w) A (Builtin.Slice.sliceApplied (.ref sl) (pure (n:Int))) Q E s:=by
 obtain⟨os,hos,hcs,hds⟩:=id hs;unfold Builtin.Slice.sliceApplied Builtin.Slice.sliceFields;refine wpAny_bind (wpAny_bind (wpAny_field hos hds (x:=vl) rfl (wpAny_bind (wpAny_field hos hds (x:=vu) rfl (wpAny_bind (wpAny_field hos hds (x:=.none) rfl (wpAny_pure ?_)))))));refine wpAny_bind (slicePart_none ?_);show wpAny _ _ (if((1:Int) == 0)=true then _ else _) _ _ s;rw [if_neg (by decide)]
 refine wpAny_bind (ZaS pl (wpAny_bind (ZaS pu (wpAny_bind (wpAny_pure ?_)))));show wpAny _ _ (match Builtin.Slice.sliceAdjust lo hi 1 (n:Int)with|(lo,hi)=>pure (lo,(1:Int),Builtin.Slice.slicePlaces lo hi 1)) _ _ s;rw [Zc3 lo hi n];show wpAny _ _ (pure (((sIx n 0 lo:Nat):Int),(1:Int),Builtin.Slice.slicePlaces ((sIx n 0 lo:Nat):Int) ((sIx n n hi:Nat):Int) 1)) _ _ s;rw [Zc4]
 exact wpAny_pure h
theorem Ze8(xs:Array Value)(i k:Nat):((List.range k).filterMap λ(m:Nat)=>xs[((i:Int)+(m:Int)*1).toNat]?).toArray=((xs.toList.drop i).take k).toArray:=by
 have e:(λ(m:Nat)=>xs[((i:Int)+(m:Int)*1).toNat]?)=λm=>xs[i+m]? := by
  funext m
  have:((i:Int)+(m:Int)*1).toNat=i+m:=by omega
  rw [this]
 rw [e];have:=pick_run xs i k;rw [List.filterMap_map]at this;have e2:((λx=>xs[x]?)∘λx=>i+x)=λm=>xs[i+m]? := rfl
 rw [e2]at this;rw [this]
theorem getItem_tuple_cut {t sl:Addr} {items:Array Value} {vl vu:Value} {lo hi:Option Int} {Q:Value->Shared->Prop} (ht:IsTup s.heap t items) (hs:s.heap.IsSliceOf sl vl vu .none) (pl:IsPart vl lo) (pu:IsPart vu hi)
 (hw:¬(sIx items.size 0 lo=0/\sIx items.size items.size hi=items.size))
 (h:Q (.ref s.heap.objs.size) { s with heap:=s.heap.push { cls := .type "tuple",data := .seq ((items.toList.drop (sIx items.size 0 lo)).take (sIx items.size items.size hi-sIx items.size 0 lo)).toArray } })
 (hsz:items.size<=sizeLine):wpAny (model prog w) A (getItem (.ref t) (.ref sl)) Q E s:=by
 have htake:sizeOk (.seq ((items.toList.drop (sIx items.size 0 lo)).take (sIx items.size items.size hi-sIx items.size 0 lo)).toArray):=by
  show((items.toList.drop (sIx items.size 0 lo)).take (sIx items.size items.size hi-sIx items.size 0 lo)).toArray.size<=sizeLine;rw [List.size_toArray,List.length_take,List.length_drop,Array.length_toList];omega
 have hj:sIx items.size items.size hi<=items.size:=ZiZ _ _ (Nat.le_refl _) hi;obtain⟨os,hos,hcs,hds⟩:=id hs;have hTs:s.TypeIs (.ref sl) "slice" := ⟨os,hos,hcs⟩
 unfold getItem
 try with_reducible refine wpAny_holding ?_
 first|refine wpAny_bind (wpAny_pure ?_)|skip
 refine wpAny_bind (wpAny_sequenceKey ht.typeIs (by decide) ?_)
 refine wpAny_bind (wpAny_callSpecial?_slot (name:=Str.ofString "__getitem__") ht.typeIs PyProof.Rows.slot_tuple_getitem
  (wpAny_call_entry PyProof.Rows.slot_tuple_getitem ht.typeIs entry_tuple_getitem ?_ (args_tuple_getitem _ _)))
 show wpAny _ _ (Builtin.Tuple.tupleItemsOf (.ref t) >>= _) _ _ s;refine wpAny_bind (tupleItemsOf_ ht ?_);refine wpAny_bind (wpAny_typeOf hTs ?_);rw [if_pos (by decide)];refine wpAny_bind (Zaq hs pl pu ?_)
 have hno:¬((((sIx items.size 0 lo:Nat):Int) == 0&&(1:Int) == 1&&(sIx items.size items.size hi-sIx items.size 0 lo) == items.size)=true):=by
  intro q;rw [Bool.and_eq_true,Bool.and_eq_true]at q;have q1:((sIx items.size 0 lo:Nat):Int)=0:=eq_of_beq q.1.1;have q2:sIx items.size items.size hi-sIx items.size 0 lo=items.size:=eq_of_beq q.2;exact hw ⟨by omega,by omega⟩
 show wpAny _ _ (if(((sIx items.size 0 lo:Nat):Int) == 0&&(1:Int) == 1&&(sIx items.size items.size hi-sIx items.size 0 lo) == items.size)=true then _ else _) _ _ s;rw [if_neg hno,Ze8]
 first
  |exact wpAny_bind (m:=Builtin.Tuple.tupleExact _) (wpAny_newObj_type (wpAny_pure ⟨_,rfl,wpAny_pure h⟩) htake)
  |exact wpAny_bind (m:=Builtin.Tuple.tupleExact _) (wpAny_newObj_type (wpAny_bind (wpAny_pure (wpAny_pure ⟨_,rfl,wpAny_pure h⟩))) htake)
  |exact wpAny_bind (wpAny_bind (m:=Builtin.Tuple.tupleExact _) (wpAny_newObj_type (wpAny_pure (wpAny_pure ⟨_,rfl,wpAny_pure h⟩)) htake))
  |exact wpAny_bind (wpAny_bind (m:=Builtin.Tuple.tupleExact _) (wpAny_newObj_type (wpAny_pure ⟨_,rfl,wpAny_pure h⟩) htake))
end
end HT
namespace L2
open PySem PySem.Spec PyProof.Rows
abbrev TO:=St->Hp->(Option Int->Hp->Prop)->Prop
def PO(X:Cx)(e:Option Expr)(t:TO):Prop:=
 ∀(pins:List (Addr×Obj))(s:Shared)(σ:St)(H:Hp)(Q:Option Int->Hp->Prop),Inv X pins σ H s->t σ H Q ->
  wpAny (model X.prog X.w) X.A (evalPart e X.env) (λu s'=>∃o H',Inv X pins σ H' s'/\IsPart u o/\Q o H') X.xe s
def tNoPart:TO:=λ_ H Q=>Q none H
def Zii(t:TE):TO:=λσ H Q=>t σ H λx H1=>∃i,x = .int i/\Q (some i) H1
section
variable{X:Cx}{e:Expr}{te:TE}{lo hi:Option Expr}{tl th:TO}{pos p2:Pos}
theorem Zha:PO X none tNoPart:=by
 intro pins s σ H Q I h;rw [evalPart_none];exact wpAny_pure ⟨none,H,I,.none,h⟩
theorem J6(h:PE X e te):PO X (some e) (Zii te):=by
 intro pins s σ H Q I hw;rw [evalPart_some];refine thn (h pins s σ H _ I hw) λu s1 ⟨x,H1,I1,r1,q1⟩ => ?_
 obtain⟨i,rfl,q⟩:=q1;obtain⟨t,rfl⟩:=r1;exact⟨some i,H1,I1,.int i t,q⟩
def SlR(X:Cx)(r:V->Option Int->Option Int->Hp->VK->Prop):Prop:=
 ∀(pins:List (Addr×Obj))(s:Shared)(σ:St)(H:Hp)(x:V)(v vl vu:Value)(lo hi:Option Int)(sl:Addr)(Q:VK),Inv X pins σ H s->RelV x v->s.heap.IsSliceOf sl vl vu .none->IsPart vl lo->IsPart vu hi->r x lo hi H Q ->
  ∃T id,typeLookup (.type T) "__getitem__" = pure (some (.builtin id))/\s.TypeIs v T/\wpAny (model X.prog X.w) X.A (getItem v (.ref sl)) (EP X pins σ Q) X.xe s
theorem SlR.or{r r':V->Option Int->Option Int->Hp->VK->Prop}(h:SlR X r)(h':SlR X r'):SlR X (λx lo hi H Q=>r x lo hi H Q\/r' x lo hi H Q):=by
 intro pins s σ H x v vl vu lo hi sl Q I rx hs pl pu q;rcases q with q|q
 · exact h pins s σ H x v vl vu lo hi sl Q I rx hs pl pu q
 · exact h' pins s σ H x v vl vu lo hi sl Q I rx hs pl pu q
def tSl(r:V->Option Int->Option Int->Hp->VK->Prop)(te:TE)(tl th:TO):TE:=λσ H Q=>te σ H λx H1=>tl σ H1 λl H2=>th σ H2 λu H3=>r x l u H3 Q
theorem Zco{r:V->Option Int->Option Int->Hp->VK->Prop}(hr:SlR X r)(he:PE X e te)(hl:PO X lo tl)(hu:PO X hi th):PE X (.Subscript e (.Slice lo hi none p2) pos) (tSl r te tl th):=by
 intro pins s σ H Q I h;refine Subscript_ (thn (he pins s σ H _ I h) λv s1 ⟨x,H1,I1,r1,q1⟩ => ?_);refine wpAny_Slice (thn (hl pins s1 σ H1 _ I1 q1) λvl s2 ⟨l,H2,I2,pl,q2⟩=>thn (hu pins s2 σ H2 _ I2 q2) λvu s3 ⟨u,H3,I3,pu,q3⟩ => ?_);rw [evalPart_none];refine wpAny_pure ?_;have I4:Inv X pins σ H3 { s3 with heap:=s3.heap.push { cls := .type "slice",data := .fields #[vl,vu,.none] } }:=I3.kept (t':=s3.toks) λb ob q=>Heap.get?_push_of_some _ q
 obtain⟨T,id,hT,ht,hg⟩:=hr pins { s3 with heap:=s3.heap.push { cls := .type "slice",data := .fields #[vl,vu,.none] } } σ H3 x v vl vu l u s3.heap.objs.size Q I4 r1 (Heap.IsSliceOf.new ..) pl pu q3;show wpAny (model X.prog X.w) X.A (subscriptTail e (.Slice lo hi none p2) v (.ref s3.heap.objs.size)) (EP X pins σ Q) X.xe { s3 with heap:=s3.heap.push { cls := .type "slice",data := .fields #[vl,vu,.none] } }
 exact tail_any (ops:=[.ref s3.heap.objs.size,v]) ht hT hg (by with_unfolding_all rfl)
def V9(xs:List V)(lo hi:Option Int):List V:=(xs.drop (HT.sIx xs.length 0 lo)).take (HT.sIx xs.length xs.length hi-HT.sIx xs.length 0 lo)
theorem ZaH(xs:List V)(lo hi:Option Int):(V9 xs lo hi).length<=xs.length:=by
 unfold V9;rw [List.length_take,List.length_drop];omega
def Zld(K:PySem.W.Frag):V->Option Int->Option Int->Hp->VK->Prop:=λx lo hi H Q=>∃a xs,x = .ref a/\SqT K H a xs /\
 ¬(HT.sIx xs.length 0 lo=0/\HT.sIx xs.length xs.length hi=xs.length)/\∀p,H p=none->Q (.ref p) (upd H p (.tup (V9 xs lo hi)))
theorem Zi0:SlR X (Zld X.K):=by
 intro pins s σ H x v vl vu lo hi sl Q I rx hs pl pu h;obtain⟨a,xs,rfl,hx,hw,q⟩:=h;cases rx;obtain⟨its,r,ht,hz⟩:=I.tuple hx;have hlen:its.toArray.size=xs.length:=by rw [List.size_toArray];exact r.length.symm
 refine⟨"tuple",_,PyProof.Rows.slot_tuple_getitem.lookup,ht.typeIs,?_⟩;refine HT.getItem_tuple_cut ht hs pl pu (by rw [hlen];exact hw) ?_ (by rw [hlen];exact hz);rw [hlen];refine⟨.ref s.heap.objs.size,_,I.laid (t':=s.toks) (o:=.tup (V9 xs lo hi)) (λb ob q=>Heap.get?_push_of_some _ q) (Nat.le_refl _) ?_,rfl,q _ (I.hok.fresh (Nat.le_refl _))⟩;exact⟨Nat.le_trans (ZaH xs lo hi) hz,_,(r.drop (HT.sIx xs.length 0 lo)).take (HT.sIx xs.length xs.length hi-HT.sIx xs.length 0 lo),TupN.new _ _⟩
def J7(K:PySem.W.Frag):R2:=λx y H Q=>∃a b xs ys,x = .ref a/\y = .ref b/\SqT K H a xs/\SqT K H b ys/\xs≠[]/\xs.length+ys.length<=sizeLine /\
 (ys=[]->Q (.ref a) H)/\(ys≠[]->∀p,H p=none->Q (.ref p) (upd H p (.tup (xs++ys))))
theorem Vals.nil_iff{xs:List V}{us:List Value}(r:Vals xs us):us=[] ↔ xs=[]:=by
 cases r with
 |nil=>simp
 |cons _ _=>simp
theorem Zhb:OpR X (binaryOp .Add) (J7 X.K):=by
 intro pins s σ H x y v u Q I rx ry h;obtain⟨a,b,xs,ys,rfl,rfl,ha,hb,hx,hz,q1,q2⟩:=h;cases rx;cases ry;obtain⟨its,r1,p1,_⟩:=I.tuple ha;obtain⟨its2,r2,p2,_⟩:=I.tuple hb;refine HT.cat_tup p1 p2 (λz=>hx (r1.nil_iff.mp z)) (λz=>⟨.ref a,H,I,rfl,q1 (r2.nil_iff.mp z)⟩) (λz => ?_) (by rw [<-r1.length,<-r2.length];exact hz);refine⟨.ref s.heap.objs.size,_,I.laid (t':=s.toks) (o:=.tup (xs++ys)) (λb ob q=>Heap.get?_push_of_some _ q) (Nat.le_refl _) ?_,rfl,q2 (λw=>z (r2.nil_iff.mpr w)) _ (I.hok.fresh (Nat.le_refl _))⟩
 exact⟨by rw [List.length_append];exact hz,_,r1.append r2,TupN.new _ _⟩
end
end L2
namespace L2
open PySem PySem.Spec PyProof.Rows
def ixN(n:Nat)(i:Int):Option Nat:=if 0<=i then(if i<n then some i.toNat else none)else if -(n:Int)<=i then some (i+n).toNat else none
def atI{α:Type}(xs:List α)(i:Int):Option α:=(ixN xs.length i).bind λj=>xs[j]?
theorem ZdI{n:Nat}{i:Int}{j:Nat}(h:ixN n i=some j):seqIndex? i n=some j/\j<n /\ -(n:Int)<=i/\i<n:=by
 unfold ixN at h
 by_cases h0:0<=i
 · rw [if_pos h0]at h
   by_cases h1:i<n
   · rw [if_pos h1]at h
     have e:i.toNat=j:=Option.some.inj h;exact⟨by rw [seqIndex_of h0 h1,e],by omega,by omega,h1⟩
   · rw [if_neg h1]at h;cases h
 · rw [if_neg h0]at h
   by_cases h1 : -(n:Int)<=i
   · rw [if_pos h1]at h
     have e:(i+n).toNat=j:=Option.some.inj h;exact⟨by rw [seqIndex_neg (by omega) h1,e],by omega,h1,by omega⟩
   · rw [if_neg h1]at h;cases h
theorem J8{α:Type}{xs:List α}{i:Int}{v:α}(h:atI xs i=some v):∃j,seqIndex? i xs.length=some j/\xs[j]? = some v/\j<xs.length /\ -(xs.length:Int)<=i/\i<xs.length:=by
 unfold atI at h;cases e:ixN xs.length i with
 |none=>rw [e]at h;cases h
 |some j=>
  rw [e]at h;obtain⟨h1,h2,h3,h4⟩:=ZdI e;exact⟨j,h1,h,h2,h3,h4⟩
theorem QO{α:Type}{xs:List α}{j:Nat}{v:α}(h:xs[j]? = some v):atI xs (j:Int)=some v:=by
 have hj:j<xs.length:=(List.getElem?_eq_some_iff.mp h).1
 have e:ixN xs.length (j:Int)=some j:=by
  unfold ixN;rw [if_pos (by omega),if_pos (by omega)];simp
 unfold atI;rw [e];exact h
theorem Ze9{α:Type}(xs:List α)(v:α):atI (xs++[v]) (-1)=some v:=by
 have hl:(xs++[v]).length=xs.length+1:=by simp
 have e:ixN (xs++[v]).length (-1)=some xs.length:=by
  unfold ixN;rw [hl,if_neg (by decide),if_pos (by omega)]
  congr 1
  omega
 unfold atI;rw [e];show(xs++[v])[xs.length]? = some v;simp
def Zhc(b:Expr):Prop:=∀o i,subscripted b false o i=operate [o,i] (getItem o i)
def IxR(X:Cx)(r:R2):Prop:=
 ∀(value slice:Expr)(pins:List (Addr×Obj))(s:Shared)(σ:St)(H:Hp)(x y:V)(v u:Value)(Q:VK),Inv X pins σ H s->RelV x v->RelV y u->r x y H Q ->
  subscripted slice false v u=operate [v,u] (getItem v u)->wpAny (model X.prog X.w) X.A (subscriptTail value slice v u) (EP X pins σ Q) X.xe s
def MtR(X:Cx)(id:String)(r:V->List V->Hp->VK->Prop):Prop:=
 ∀(pins:List (Addr×Obj))(s:Shared)(σ:St)(H:Hp)(x:V)(xs:List V)(v:Value)(us:List Value)(Q:VK),Inv X pins σ H s->RelV x v->Vals xs us->r x xs H Q ->
  wpAny (model X.prog X.w) X.A (call (.builtin id) (v::us)) (EP X pins σ Q) X.xe s
section
variable{X:Cx}{a b:Expr}{ta tb:TE}{pos:Pos}
theorem IxR.or{r r':R2}(h:IxR X r)(h':IxR X r'):IxR X (λx y H Q=>r x y H Q\/r' x y H Q):=by
 intro value slice pins s σ H x y v u Q I rx ry q hs;rcases q with q|q
 · exact h value slice pins s σ H x y v u Q I rx ry q hs
 · exact h' value slice pins s σ H x y v u Q I rx ry q hs
theorem Zv{r:R2}(hr:IxR X r)(ha:PE X a ta)(hb:PE X b tb)(hs:Zhc b):PE X (.Subscript a b pos) (tOp r ta tb):=by
 intro pins s σ H Q I h;exact Subscript_ (JW ha hb I h λv u s2 x y H2 I2 rx ry q=>hr a b pins s2 σ H2 x y v u Q I2 rx ry q (hs _ _))
def Zle(K:PySem.W.Frag):R2:=λx y H Q=>∃p xs i v,x = .ref p/\y = .int i/\SqL K H p xs/\atI xs i=some v/\Q v H
def Zlf(K:PySem.W.Frag):R2:=λx y H Q=>∃p xs i v,x = .ref p/\y = .int i/\SqT K H p xs/\atI xs i=some v/\Q v H
def rIxS:R2:=λx y H Q=>∃z i c,x = .str z/\y = .int i/\z.length<=sizeLine/\atI z.cps.toList i=some c/\Q (.str ⟨#[c]⟩) H
theorem ix_list:IxR X (Zle X.K):=by
 intro value slice pins s σ H x y v u Q I rx ry h hs;obtain⟨p,xs,i,z,rfl,rfl,hq,he,q⟩:=h;cases rx;obtain⟨t,rfl⟩:=ry;obtain⟨its,r,pl,hz⟩:=I.list hq;obtain⟨j,h1,h2,h3,h4,h5⟩:=J8 he;obtain⟨w,ew,rw'⟩:=r.get h2;have hl:=r.length;have hn:=UO;have fin:EP X pins σ Q w s:=⟨z,H,I,rw',q⟩
 by_cases h0:0<=i
 · have hj : i.toNat = j := by
    rw [seqIndex_of h0 h5]at h1;exact Option.some.inj h1
   exact item_listR pl.isList h0 (by omega) (by rw [hj];simpa using ew) fin hs
 · have hj : (i + (its.toArray.size : Int)).toNat = j := by
    rw [seqIndex_neg (by omega) h4]at h1;rw [List.size_toArray,<-hl];exact Option.some.inj h1
   exact subscriptTail_builtinR (x:=w) pl.isList.typeIs slot_list_getitem.lookup
    (wpAny_getItem_list_neg (Q:=λr s'=>r=w/\EP X pins σ Q r s') pl.isList (by omega) (by rw [List.size_toArray]<;>omega) (by omega) (by rw [hj];simpa using ew) ⟨rfl,fin⟩) hs
theorem ix_tup:IxR X (Zlf X.K):=by
 intro value slice pins s σ H x y v u Q I rx ry h hs;obtain⟨p,xs,i,z,rfl,rfl,hq,he,q⟩:=h;cases rx;obtain⟨t,rfl⟩:=ry;obtain⟨its,r,pl,hz⟩:=I.tuple hq;obtain⟨j,h1,h2,h3,h4,h5⟩:=J8 he;obtain⟨w,ew,rw'⟩:=r.get h2;have hl:=r.length;have hn:=UO;have fin:EP X pins σ Q w s:=⟨z,H,I,rw',q⟩
 exact subscriptTail_builtinR (x:=w) pl.typeIs slot_tuple_getitem.lookup
  (getItem_tuple (j:=j) (Q:=λr s'=>r=w/\EP X pins σ Q r s') pl (by omega) (by omega) (by rw [List.size_toArray,<-hl];exact h1) (by simpa using ew) ⟨rfl,fin⟩) hs
theorem ix_str:IxR X rIxS:=by
 intro value slice pins s σ H x y v u Q I rx ry h hs;obtain⟨z,i,c,rfl,rfl,hz,he,q⟩:=h;obtain⟨t,rfl⟩:=rx;obtain⟨t',rfl⟩:=ry;obtain⟨j,h1,h2,h3,h4,h5⟩:=J8 he;have hl:z.cps.toList.length=z.length:=by simp [Str.length]
 rw [hl]at h1 h4 h5;have hn:=UO
 exact tail_any (typeIs_str s z t) slot_str_getitem.lookup (getItem_str (c:=c) (by
  have e1:decide (i < -(2 ^ 63:Int))=false:=decide_eq_false (by omega);have e2:decide (i ≥ 2 ^ 63)=false:=decide_eq_false (by omega);rw [e1,e2,Bool.or_false]) (by rw [h1];simpa using h2) ⟨.str ⟨#[c]⟩,H,I.tok _,⟨_,rfl⟩,q⟩) hs
theorem Zc5(its:List Value)(n j:Nat)(u:Value):Obj.mapSeq (·.setIfInBounds j u) { cls := .type "list",data := .seq its.toArray n }={ cls := .type "list",data := .seq (its.set j u).toArray n }:=by
 simp [Obj.mapSeq]
theorem Inv.lst{pins:List (Addr×Obj)}{σ:St}{H:Hp}{s:Shared}{p:Addr}{xs:List V}(I:Inv X pins σ H s)(h:H p=some (.lst xs)) :
 ∃(its:List Value) (n:Nat),Vals xs its/\s.heap.get? p=some { cls := .type "list",data := .seq its.toArray n }/\xs.length<=sizeLine:=by
 obtain⟨z,its,n,r,e⟩:=I.hok p _ h;exact⟨its,n,r,e,z⟩
theorem Inv.lstUpd {pins:List (Addr×Obj)} {σ:St} {H:Hp} {s:Shared} {p:Addr} {xs ys:List V} {its its':List Value} {n n':Nat} {f:Obj->Obj} (I:Inv X pins σ H s) (h:H p=some (.lst xs))
 (ho:s.heap.get? p=some { cls := .type "list",data := .seq its.toArray n }) (hf:f { cls := .type "list",data := .seq its.toArray n }={ cls := .type "list",data := .seq its'.toArray n' }) (r:Vals ys its') (hz:ys.length<=sizeLine) (t:Nat) :
 Inv X pins σ (upd H p (.lst ys)) { s with heap:=s.heap.update p f,toks:=t }:=by
 have e:(s.heap.update p f).get? p=some { cls := .type "list",data := .seq its'.toArray n' }:=by
  rw [Heap.get?_update_self f ho (by rw [hf]<;>rfl),hf]
 refine I.write (x:=p) (e:=p) (by rw [h];trivial) (.inl rfl) (λb u hb q=>(Heap.get?_update_other _ _ (Ne.symm hb)).trans q) ⟨_,e⟩ ?_;exact⟨hz,its',n',r,e⟩
def rSetL:V->V->V->Hp->(Hp->Prop)->Prop:=λo i v H Q=>∃p xs k j,o = .ref p/\i = .int k/\H p=some (.lst xs)/\ixN xs.length k=some j/\Q (upd H p (.lst (xs.set j v)))
theorem J9:Zk7 X rSetL:=by
 intro pins s σ H o i v ov iv u Q I ro ri rv h;obtain⟨p,xs,k,j,rfl,rfl,hp,hj,q⟩:=h;cases ro;obtain⟨t,rfl⟩:=ri;obtain⟨its,n,r,ho,hz⟩:=I.lst hp;obtain⟨h1,h2,h3,h4⟩:=ZdI hj;have hl:=r.length;have hn:=UO
 have I':Inv X pins σ (upd H p (.lst (xs.set j v))) { s with heap:=s.heap.update p (Obj.mapSeq (·.setIfInBounds j u)) }:=
  I.lstUpd hp ho (Zc5 its n j u) (r.set rv j) (by rw [List.length_set];exact hz) s.toks
 by_cases h0:0<=k
 · have hk : k.toNat = j := by
    rw [seqIndex_of h0 h4]at h1;exact Option.some.inj h1
   exact PySem.W.ki_setAt ho h0 (by omega) (by rw [List.size_toArray,<-hl];exact h4) (by rw [hk];exact⟨_,I',q⟩)
 · have hk : (k + (its.toArray.size : Int)).toNat = j := by
    rw [seqIndex_neg (by omega) h3]at h1;rw [List.size_toArray,<-hl];exact Option.some.inj h1
   exact PySem.W.ki_setBack ho (by omega) (by rw [List.size_toArray,<-hl];exact h3) (by omega) (by rw [hk];exact⟨_,I',q⟩)
theorem ZbG(lo hi:Option Int)(n:Nat):(sliceBounds lo hi none n).1=((HT.sIx n 0 lo:Nat):Int)/\(sliceBounds lo hi none n).2.1=((HT.sIx n n hi:Nat):Int)/\(sliceBounds lo hi none n).2.2=1:=by
 refine⟨?_,?_,rfl⟩
 · cases lo with
   |none=>simp [sliceBounds,HT.sIx]
   |some i=>
    simp only [sliceBounds,HT.sIx,Option.getD_none,show(1:Int)>0 by decide,if_true]
    by_cases h:i<0
    · simp only [h,if_true]<;>omega
    · simp only [h,if_false]<;>omega
 · cases hi with
   |none=>simp [sliceBounds,HT.sIx]
   |some i=>
    simp only [sliceBounds,HT.sIx,Option.getD_none,show(1:Int)>0 by decide,if_true]
    by_cases h:i<0
    · simp only [h,if_true]<;>omega
    · simp only [h,if_false]<;>omega
theorem Zbb(its:List Value)(lo hi:Option Int):slicePick its.toArray lo hi none=((its.drop (HT.sIx its.length 0 lo)).take (HT.sIx its.length its.length hi-HT.sIx its.length 0 lo)).toArray:=by
 obtain⟨h1,h2,h3⟩:=ZbG lo hi its.toArray.size;unfold slicePick;rw [h1,h2,h3];simp only [sliceRange_one,pick_run,List.size_toArray]<;>rfl
def Zlg(K:PySem.W.Frag):V->Option Int->Option Int->Hp->VK->Prop:=λx lo hi H Q=>∃a xs,x = .ref a/\SqL K H a xs/\∀p,H p=none->Q (.ref p) (upd H p (.lst (V9 xs lo hi)))
theorem sl_list:SlR X (Zlg X.K):=by
 intro pins s σ H x v vl vu lo hi sl Q I rx hs pl pu h;obtain⟨a,xs,rfl,hx,q⟩:=h;cases rx;obtain⟨its,r,ht,hz⟩:=I.list hx;have hlen:=r.length;refine⟨"list",_,slot_list_getitem.lookup,ht.isList.typeIs,?_⟩;refine wpAny_getItem_list_slice ht.isList hs pl pu .none (by simp) ?_ (by rw [List.size_toArray]<;>omega);rw [Zbb,<-hlen];refine⟨.ref s.heap.objs.size,_,I.laid (t':=s.toks) (o:=.lst (V9 xs lo hi)) (λb ob q=>Heap.get?_push_of_some _ q) (Nat.le_refl _) ?_,rfl,q _ (I.hok.fresh (Nat.le_refl _))⟩
 exact⟨Nat.le_trans (ZaH xs lo hi) hz,_,0,(r.drop (HT.sIx xs.length 0 lo)).take (HT.sIx xs.length xs.length hi-HT.sIx xs.length 0 lo),Heap.get?_push_size _ rfl⟩
def Vc:V->Bool
 | .non=>true
 | .bl _=>true
 | .int _=>true
 | .str _=>true
 |_=>false
def eqV:V->V->Bool
 | .non,.non=>true
 | .bl a,.bl b=>a == b
 | .bl a,.int b=>(if a then 1 else 0) == b
 | .int a,.bl b=>a == (if b then 1 else 0)
 | .int a,.int b=>a == b
 | .str a,.str b=>a == b
 |_,_=>false
theorem Zi1{A:Around}{s:Shared}{y x:V}{u v:Value}(ry:RelV y u)(rx:RelV x v)(fy:Vc y=true)(fx:Vc x=true):SeqAt.EqAt A s u v (eqV y x):=by
 cases y with
 |non=>
  cases ry;cases x with
  |non=>cases rx;exact SeqAt.EqAt.same _
  |bl b=>cases rx;exact SeqAt.EqAt.none_bool b
  |int b=>obtain⟨t,rfl⟩:=rx;exact SeqAt.EqAt.none_int b t
  |str b=>obtain⟨t,rfl⟩:=rx;exact SeqAt.EqAt.none_str b t
  |_=>exact absurd (show false=true from fx) Bool.false_ne_true
 |bl a=>
  cases ry;cases x with
  |non=>cases rx;exact SeqAt.EqAt.bool_none a
  |bl b=>cases rx;exact SeqAt.EqAt.bool_bool a b
  |int b=>obtain⟨t,rfl⟩:=rx;exact SeqAt.EqAt.bool_int a b t
  |str b=>obtain⟨t,rfl⟩:=rx;exact SeqAt.EqAt.bool_str a b t
  |_=>exact absurd (show false=true from fx) Bool.false_ne_true
 |int a=>
  obtain⟨t',rfl⟩:=ry;cases x with
  |non=>cases rx;exact SeqAt.EqAt.int_none a t'
  |bl b=>cases rx;exact SeqAt.EqAt.int_bool a t' b
  |int b=>obtain⟨t,rfl⟩:=rx;exact SeqAt.EqAt.int_int a t' b t
  |str b=>obtain⟨t,rfl⟩:=rx;exact SeqAt.EqAt.int_str a t' b t
  |_=>exact absurd (show false=true from fx) Bool.false_ne_true
 |str a=>
  obtain⟨t',rfl⟩:=ry;cases x with
  |non=>cases rx;exact SeqAt.EqAt.str_none a t'
  |bl b=>cases rx;exact SeqAt.EqAt.str_bool a t' b
  |int b=>obtain⟨t,rfl⟩:=rx;exact SeqAt.EqAt.str_int a t' b t
  |str b=>obtain⟨t,rfl⟩:=rx;exact SeqAt.EqAt.str_str a t' b t
  |_=>exact absurd (show false=true from fx) Bool.false_ne_true
 |_=>exact absurd (show false=true from fy) Bool.false_ne_true
def eqU(x:V)(u:Value):Bool:=match u with
 | .none=>eqV .non x
 | .bool b=>eqV (.bl b) x
 | .int i _=>eqV (.int i) x
 | .str z _=>eqV (.str z) x
 |_=>false
theorem Zf7{x y:V}{u:Value}(r:RelV y u)(f:Vc y=true):eqU x u=eqV y x:=by
 cases y with
 |non=>cases r;rfl
 |bl b=>cases r;rfl
 |int i=>obtain⟨t,rfl⟩:=r;rfl
 |str z=>obtain⟨t,rfl⟩:=r;rfl
 |_=>exact absurd (show false=true from f) Bool.false_ne_true
theorem Qh{x:V}:∀{xs:List V}{us:List Value},Vals xs us->xs.all Vc=true->us.any (eqU x)=xs.any λy=>eqV y x
 |_,_,.nil,_=>rfl
 |y::xs,u::us,.cons r t,f=>by
  rw [List.all_cons,Bool.and_eq_true]at f;rw [List.any_cons,List.any_cons,Zf7 r f.1,Qh t f.2]
theorem Qi{A:Around}{s:Shared}{x:V}{v:Value}(rx:RelV x v)(fx:Vc x=true):∀{xs:List V}{us:List Value},Vals xs us->xs.all Vc=true->∀u∈us,SeqAt.EqAt A s u v (eqU x u)
 |_,_,.nil,_=>λu hu=>by cases hu
 |y::xs,u::us,.cons r t,f=>λu' hu=>by
  rw [List.all_cons,Bool.and_eq_true]at f;rcases List.mem_cons.mp hu with rfl|hu
  · rw [Zf7 r f.1];exact Zi1 r rx f.1 fx
  · exact Qi rx fx t f.2 u' hu
def inV(x:V)(xs:List V):Bool:=xs.any λy=>eqV y x
def rIn(K:PySem.W.Frag)(neg:Bool):R2:=λx y H Q=>∃p xs,y = .ref p/\(SqL K H p xs\/SqT K H p xs)/\Vc x=true/\xs.all Vc=true/\Q (.bl (if neg then !inV x xs else inV x xs)) H
theorem Zeq:OpR X (compareOp .In) (rIn X.K false):=by
 intro pins s σ H x y v u Q I rx ry h;obtain⟨p,xs,rfl,hq,fx,fs,q⟩:=h;cases ry;rcases hq with hq|hq
 · obtain⟨its,r,pl,hz⟩:=I.list hq
   refine SeqAt.in_listAt (eqU x) pl.isList (λw hw=>Qi rx fx r fs w (by simpa using hw)) ⟨.bl _,H,I,rfl,?_⟩;rw [show its.toArray.any (eqU x)=its.any (eqU x) by simp,Qh r fs];exact q
 · obtain⟨its,r,pl,hz⟩:=I.tuple hq
   refine SeqAt.in_tupleAt (eqU x) pl (λw hw=>Qi rx fx r fs w (by simpa using hw)) ⟨.bl _,H,I,rfl,?_⟩;rw [show its.toArray.any (eqU x)=its.any (eqU x) by simp,Qh r fs];exact q
theorem ZbH:OpR X (compareOp .NotIn) (rIn X.K true):=by
 intro pins s σ H x y v u Q I rx ry h;obtain⟨p,xs,rfl,hq,fx,fs,q⟩:=h;cases ry;rcases hq with hq|hq
 · obtain⟨its,r,pl,hz⟩:=I.list hq
   refine SeqAt.notIn_listAt (eqU x) pl.isList (λw hw=>Qi rx fx r fs w (by simpa using hw)) ⟨.bl _,H,I,rfl,?_⟩;rw [show its.toArray.any (eqU x)=its.any (eqU x) by simp,Qh r fs];exact q
 · obtain⟨its,r,pl,hz⟩:=I.tuple hq
   refine SeqAt.notIn_tupleAt (eqU x) pl (λw hw=>Qi rx fx r fs w (by simpa using hw)) ⟨.bl _,H,I,rfl,?_⟩;rw [show its.toArray.any (eqU x)=its.any (eqU x) by simp,Qh r fs];exact q
theorem ZbI:Z6 X (.builtin "len") (λxs H Q=>∃p ys,xs=[.ref p]/\(SqL X.K H p ys\/SqT X.K H p ys)/\Q (.int ys.length) H):=by
 intro pins s σ H xs us Q I r h;obtain⟨p,ys,rfl,hq,q⟩:=h;obtain⟨u,rfl,rx⟩:=YV r;cases rx;have hn:=UO;rcases hq with hq|hq
 · obtain⟨its,r',pl,hz⟩:=I.list hq
   have hlen:=r'.length;exact Calls.call_len_list pl.isList (by simp only [List.size_toArray]<;>omega) ⟨.int ys.length,H,I.tok _,⟨s.toks+1,by rw [List.size_toArray,hlen]⟩,q⟩
 · obtain⟨its,r',pl,hz⟩:=I.tuple hq
   have hlen:=r'.length;exact len_tuple pl (by simp only [List.size_toArray]<;>omega) ⟨.int ys.length,H,I.tok _,⟨s.toks+1,by rw [List.size_toArray,hlen]⟩,q⟩
theorem ZbJ:Z6 X (.builtin "len") (λxs H Q=>∃z,xs=[.str z]/\z.length<=sizeLine/\Q (.int z.length) H):=by
 intro pins s σ H xs us Q I r h;obtain⟨z,rfl,hz,q⟩:=h;obtain⟨u,rfl,t,rfl⟩:=YV r;have hn:=UO;exact len_str (by omega) ⟨.int z.length,H,I.tok _,⟨_,rfl⟩,q⟩
theorem ZbK:Z6 X (.type "list") (λxs H Q=>∃p ys,xs=[.ref p]/\(SqL X.K H p ys\/SqT X.K H p ys)/\∀l,H l=none->Q (.ref l) (upd H l (.lst ys))):=by
 intro pins s σ H xs us Q I r h;obtain⟨p,ys,rfl,hq,q⟩:=h;obtain⟨u,rfl,rx⟩:=YV r;cases rx
 have fin:∀(its:List Value),Vals ys its->ys.length<=sizeLine->∀(h':Heap)(c':Nat),(∀b o',s.heap.get? b=some o'->h'.get? b=some o') ->
  h'.get? s.heap.objs.size=some { cls := .type "list",dict:=none,data := .seq its.toArray c',slots := #[] }->EP X pins σ Q (.ref s.heap.objs.size) { s with heap:=h' }:=λits r' hz h' c' kp e=>
  ⟨.ref s.heap.objs.size,_,I.laid (t':=s.toks) kp (Nat.le_refl _) (show ObjOk X.prog X.w _ h' _ (.lst ys)from⟨hz,its,c',r',e⟩),rfl,q _ (I.hok.fresh (Nat.le_refl _))⟩
 rcases hq with hq|hq
 · obtain⟨its,r',pl,hz⟩:=I.list hq
   have hlen:=r'.length;obtain⟨o,ho,hc,n,hd⟩:=pl.isList;exact call_list_seq p (.inl rfl) ho hc hd (λh' c' kp e=>fin its r' hz h' c' kp e) (by simp only [List.size_toArray]<;>omega)
 · obtain⟨its,r',pl,hz⟩:=I.tuple hq
   have hlen:=r'.length;obtain⟨o,ho,hc,n,hd⟩:=pl;exact call_list_seq p (.inr rfl) ho hc hd (λh' c' kp e=>fin its r' hz h' c' kp e) (by simp only [List.size_toArray]<;>omega)
theorem Zbc:Z6 X (.type "tuple") (λxs H Q=>∃p ys,xs=[.ref p]/\((SqL X.K H p ys/\∀l,H l=none->Q (.ref l) (upd H l (.tup ys)))\/(SqT X.K H p ys/\Q (.ref p) H))):=by
 intro pins s σ H xs us Q I r h;obtain⟨p,ys,rfl,h⟩:=h;obtain⟨u,rfl,rx⟩:=YV r;cases rx;rcases h with⟨hq,q⟩|⟨hq,q⟩
 · obtain⟨its,r',pl,hz⟩:=I.list hq
   have hlen:=r'.length;refine call_tuple_list pl.isList (λh' kp => ?_) (by simp only [List.size_toArray]<;>omega);have I1:Inv X pins σ H { s with heap:=h' }:=I.kept (t':=s.toks) kp
   have I2:Inv X pins σ (upd H h'.objs.size (.tup ys)) { s with heap:=h'.push { cls := .type "tuple",data := .seq its.toArray } }:=
    I1.laid (t':=s.toks) (λb o e=>Heap.get?_push_of_some _ e) (Nat.le_refl _) (show ObjOk X.prog X.w _ _ _ (.tup ys)from⟨hz,its,r',TupN.new _ _⟩)
   exact⟨.ref h'.objs.size,_,I2,rfl,q _ (I1.hok.fresh (Nat.le_refl _))⟩
 · obtain⟨its,r',pl,hz⟩:=I.tuple hq
   exact call_tuple_same pl ⟨.ref p,H,I,rfl,q⟩
def tyV(K:PySem.W.Frag)(T:String)(x:V)(H:Hp):Prop:=match x with
 | .str _=>T = "str"
 | .int _=>T = "int"
 | .ref p=>(T = "list" /\ ∃xs,SqL K H p xs)\/(T = "tuple" /\ ∃o,K.lookup p=some o/\o.cls = .type "tuple" /\ o.dict=none) \/
  (T = "dict" /\ ((∃kvs,H p=some (.dK kvs))\/∃kvs,H p=some (.dT kvs)))\/(T = "set" /\ ∃S n,H p=some (.set S n))\/(T = "tuple" /\ ∃xs,H p=some (.tup xs))
 |_=>False
theorem Zf8{pins:List (Addr×Obj)}{σ:St}{H:Hp}{s:Shared}{T:String}{x:V}{v:Value}(I:Inv X pins σ H s)(r:RelV x v)(ty:tyV X.K T x H) :
 s.TypeIs v T/\∀a,v = .ref a->∃ob,s.heap.get? a=some ob/\ob.dict=none:=by
 cases x with
 |str z=>
  obtain⟨t,rfl⟩:=r;cases(show T = "str" from ty);exact⟨typeIs_str s z t,λ_ e=>nomatch e⟩
 |int i=>
  obtain⟨t,rfl⟩:=r;cases(show T = "int" from ty);exact⟨typeIs_int s i t,λ_ e=>nomatch e⟩
 |ref p=>
  cases r;rcases ty with⟨rfl,xs,hq⟩|⟨rfl,o,hk,hc,hd⟩|⟨rfl,hk⟩|⟨rfl,S,n,hk⟩|⟨rfl,xs,hk⟩
  · obtain⟨its,_,pl,_⟩:=I.list hq
    refine⟨pl.isList.typeIs,λa e => ?_⟩;cases e;obtain⟨o,n,e,c,hd,_⟩:=pl;exact⟨o,e,hd⟩
  · refine⟨⟨o,I.kIn p o hk,hc⟩,λa e => ?_⟩
    cases e;exact⟨o,I.kIn _ o hk,hd⟩
  · have z : ∃ o, s.heap.get? p = some o /\ o.ExactDict := by
     rcases hk with⟨kvs,hk⟩|⟨kvs,hk⟩
     · obtain⟨_,_,_,_,o,_,_,e,ex,_⟩:=I.hok p _ hk
       exact⟨o,e,ex⟩
     · obtain⟨_,_,_,_,o,_,_,e,ex,_⟩:=I.hok p _ hk
       exact⟨o,e,ex⟩
    obtain⟨o,e,ex⟩:=z;refine⟨⟨o,e,ex.1⟩,λa e2 => ?_⟩;cases e2;exact⟨o,e,ex.2.1⟩
  · obtain⟨o,_,_,_,e,ex,_⟩:=I.hok p _ hk
    refine⟨⟨o,e,ex.1⟩,λa e2 => ?_⟩;cases e2;exact⟨o,e,ex.2.1⟩
  · obtain⟨_,its,_,o,e,c,_,dn⟩:=(show ObjOk X.prog X.w H s.heap p (.tup xs)from I.hok p _ hk)
    refine⟨⟨o,e,c⟩,λa e2 => ?_⟩;cases e2;exact⟨o,e,dn⟩
 |_=>exact False.elim ty
def Ua(K:PySem.W.Frag)(T:String)(r:V->List V->Hp->VK->Prop)(to:TE):TE:=λσ H Q=>to σ H λx H1=>tyV K T x H1/\r x [] H1 Q
def tBM(K:PySem.W.Frag)(T:String)(r:V->List V->Hp->VK->Prop)(to:TE)(t:TA):TE:=λσ H Q=>to σ H λx H1=>tyV K T x H1/\t σ H1 λxs H2=>r x xs H2 Q
variable{o e:Expr}{es:List Expr}{to:TE}{t:TA}{name:Str}{apos cpos:Pos}{T id:String}{r:V->List V->Hp->VK->Prop}
theorem Zi2 (pa:PlainAttrs T) (slot:Slot T name id) (hty:typeOf (.builtin id)=pure (.type "method_descriptor")) (hm:MtR X id r) (ho:PE X o to)
 (hbase:attributeBase o name X.env (eval o X.env)=eval o X.env:=by rfl) (hline:(apos.endLine == cpos.line)=true:=by rfl):PE X (.Call (.Attribute o name apos) [] [] cpos) (Ua X.K T r to):=by
 intro pins s σ H Q I h;refine wpAny_Call_method0_late hbase hline (thn (ho pins s σ H _ I h) λv s1 ⟨x,H1,I1,r1,ty,q1⟩ => ?_);obtain⟨h1,h2⟩:=Zf8 I1 r1 ty;exact⟨T,id,pa,slot,hty,h1,h2,Calls.callWith_builtin rfl (PySem.evalArgs_none (hm pins s1 σ H1 x [] v [] Q I1 r1 .nil q1))⟩
theorem ZjX (pa:PlainAttrs T) (slot:Slot T name id) (hty:typeOf (.builtin id)=pure (.type "method_descriptor")) (hm:MtR X id r) (ho:PE X o to) (ha:PA X (e::es) t)
 (hbase:attributeBase o name X.env (eval o X.env)=eval o X.env:=by rfl)
 (hfew:((backTo cpos (starEach (e::es) X.env)).all (λx => !x.1)&&(backToKw cpos (keywordEach [] X.env)).all (λx=>x.1.isSome)
   && decide ((e::es).length+([]:List Keyword).length+(if([]:List Keyword).isEmpty then 0 else 1)<30))=true:=by rfl)
 (hline:(apos.endLine == cpos.line)=true:=by rfl) (hs:starEach (e::es) X.env=(false,eval e X.env)::starEach es X.env:=by rfl) (hplain:(backTo cpos (starEach es X.env)).any (·.1)=false:=by rfl) :
 PE X (.Call (.Attribute o name apos) (e::es) [] cpos) (tBM X.K T r to t):=by
 intro pins s σ H Q I h;refine wpAny_Call_method_late hbase hfew hline rfl (thn (ho pins s σ H _ I h) λv s1 ⟨x,H1,I1,r1,ty,q1⟩ => ?_);obtain⟨h1,h2⟩:=Zf8 I1 r1 ty;refine⟨T,id,pa,slot,hty,h1,h2,?_⟩;have hA:=ha cpos pins s1 σ H1 _ I1 q1;rw [hs]at hA ⊢;refine Calls.callWith_builtin (by show(false||(backTo cpos (starEach es X.env)).any (·.1))=false;rw [hplain]<;>rfl) (Calls.evalArgs_plain ?_)
 exact thn hA λus s2 ⟨vs,H2,I2,r2,q2⟩=>hm pins s2 σ H2 x vs v us Q I2 r1 r2 q2
end
end L2
namespace L2
open PySem PySem.Spec PyProof.Rows
def MtM(X:Cx)(id:String)(r:V->List V->Hp->VK->Prop):Prop:=
 ∀(pins:List (Addr×Obj))(s:Shared)(σ:St)(H:Hp)(x:V)(xs:List V)(v:Value)(us:List Value)(Q:VK),Inv X pins σ H s->RelV x v->Vals xs us->r x xs H Q ->
  wpAny (model X.prog X.w) X.A (call (.builtin id) (v::us)) (EP X pins σ Q) X.xe s
theorem Vals.one:∀{x:V}{us:List Value},Vals [x] us->∃u,us=[u]/\RelV x u
 |_,_,.cons r .nil=>⟨_,rfl,r⟩
theorem Vals.zero:∀{us:List Value},Vals [] us->us=[]
 |_,.nil=>rfl
theorem Vals.dropLast{xs:List V}{us:List Value}(h:Vals xs us):Vals xs.dropLast us.dropLast:=by
 induction h with
 |nil=>exact .nil
 |cons r t ih=>
  cases t with
  |nil=>exact .nil
  |cons q t'=>exact .cons r ih
theorem Vals.rep{xs:List V}{us:List Value}(h:Vals xs us):∀k:Nat,Vals (List.replicate k xs).flatten (List.replicate k us).flatten
 |0 => .nil
 |k+1=>by
  rw [List.replicate_succ,List.replicate_succ,List.flatten_cons,List.flatten_cons];exact Vals.append h (Vals.rep h k)
theorem Zc6{α:Type}(l:List α):l.eraseIdx (l.length-1)=l.dropLast:=by
 induction l with
 |nil=>rfl
 |cons a r ih=>
  cases r with
  |nil=>rfl
  |cons b r=>
   have e:(a::b::r).length-1=((b::r).length-1)+1:=by
    have h1:(a::b::r).length=r.length+2:=rfl;have h2:(b::r).length=r.length+1:=rfl;omega
   rw [e,List.eraseIdx_cons_succ,ih]
   all_goals rfl
theorem Zbk(its:List Value):∀(k:Nat)(acc:List Value),
 List.foldl (λx1 x2=>x1++x2) acc.toArray (List.replicate k its.toArray)=(acc++(List.replicate k its).flatten).toArray
 |0,acc=>by simp
 |k+1,acc=>by
  have e:acc.toArray++its.toArray=(acc++its).toArray:=by simp
  have e2:(acc++its)++(List.replicate k its).flatten=acc++(List.replicate (k+1) its).flatten:=by
   rw [List.replicate_succ,List.flatten_cons,List.append_assoc]
  rw [<-e2,<-Zbk its k (acc++its),<-e,List.replicate_succ,List.foldl_cons]
section
variable{X:Cx}{pins:List (Addr×Obj)}{σ:St}{H:Hp}{s:Shared}{l b:Addr}{xs ys zs:List V}
theorem Inv.lset {its its':List Value} {n:Nat} {f:Array Value->Array Value} {t':Nat} (I:Inv X pins σ H s) (hH:H l=some (.lst xs))
 (e:s.heap.get? l=some { cls := .type "list",data := .seq its.toArray n }) (hf:f its.toArray=its'.toArray) (hv:Vals ys its') (hz:ys.length<=sizeLine) :
 Inv X pins σ (upd H l (.lst ys)) { s with heap:=s.heap.update l (Obj.mapSeq f),toks:=t' }:=by
 have q:=PySem.IsL.update e f;rw [hf]at q;refine I.write (x:=l) (e:=l) (by rw [hH];exact trivial) (.inl rfl) (λb' u hb hu=>(Heap.get?_update_other s.heap (Obj.mapSeq f) (Ne.symm hb)).trans hu) ⟨_,q⟩ ?_;exact⟨hz,its',_,hv,q⟩
theorem Inv.lnew{its:List Value}{t':Nat}(I:Inv X pins σ H s)(hv:Vals ys its)(hz:ys.length<=sizeLine) :
 Inv X pins σ (upd H s.heap.objs.size (.lst ys)) { s with heap:=s.heap.push { cls := .type "list",data := .seq its.toArray },toks:=t' }:=
 I.laid (λ_ _ q=>Heap.get?_push_of_some _ q) (Nat.le_refl _) ⟨hz,its,0,hv,Heap.get?_push_size _ rfl⟩
theorem Inv.fresh(I:Inv X pins σ H s):H s.heap.objs.size=none:=I.hok.fresh (Nat.le_refl _)
theorem Inv.lstM(I:Inv X pins σ H s)(hH:H l=some (.lst xs)):xs.length<=sizeLine/\∃(its:List Value) (n:Nat),Vals xs its/\xs.length=its.length/\s.heap.get? l=some { cls := .type "list",data := .seq its.toArray n }:=by
 obtain⟨z,its,n,r,e⟩:=I.hok l _ hH;exact⟨z,its,n,r,r.length,e⟩
theorem Zfa{n:Nat}(h:n<=sizeLine):Builtin.List.listTooLong n=false:=by
 unfold Builtin.List.listTooLong;exact decide_eq_false (by omega)
end
section
variable{X:Cx}
def rAppend:V->List V->Hp->VK->Prop:=λx vs H Q=>∃l xs y,x = .ref l/\vs=[y]/\H l=some (.lst xs)/\xs.length<sizeLine/\Q .non (upd H l (.lst (xs++[y])))
theorem Vd:MtM X "list.append" rAppend:=by
 intro pins s σ H x vs v us Q I rx rv h;obtain⟨l,xs,y,rfl,rfl,hH,hz,q⟩:=h;cases rx;obtain⟨u,rfl,ru⟩:=rv.one;obtain⟨z,its,n,r,hl,e⟩:=I.lstM hH;refine call_meets F.slot_list_append ⟨_,e,rfl⟩ F.entry_list_append (F.args_list_append_2 _ _) (PySem.list_append l its.toArray n u (by rw [List.size_toArray];omega)) ⟨e,?_⟩;refine⟨.non,_,I.lset (its':=its++[u]) hH e (by simp) (r.append (.cons ru .nil)) ?_,rfl,q⟩
 rw [List.length_append,List.length_singleton];omega
def rPop:V->List V->Hp->VK->Prop:=λx vs H Q=>∃l xs y,x = .ref l/\vs=[]/\H l=some (.lst xs)/\xs[xs.length-1]? = some y/\Q y (upd H l (.lst xs.dropLast))
theorem Zi3:MtM X "list.pop" rPop:=by
 intro pins s σ H x vs v us Q I rx rv h;obtain⟨l,xs,y,rfl,rfl,hH,hy,q⟩:=h;cases rx;have hus:=rv.zero;subst hus;obtain⟨z,its,n,r,hl,e⟩:=I.lstM hH;obtain⟨u,hu,ru⟩:=r.get hy
 have hy':its.toArray[its.toArray.size-1]? = some u:=by
  show its.toArray[its.length-1]? = some u;rw [<-Array.getElem?_toList,<-hl];exact hu
 refine call_meets F.slot_list_pop ⟨_,e,rfl⟩ F.entry_list_pop (F.args_list_pop_1 _) (MeetsSeq.list_pop_last l its.toArray n u hy' (by rw [List.size_toArray];omega)) ⟨e,?_⟩;refine⟨y,_,I.lset (its':=its.dropLast) hH e ?_ r.dropLast ?_,ru,q⟩
 · show its.toArray.eraseIdxIfInBounds (its.toArray.size-1)=its.dropLast.toArray
   rw [List.size_toArray,List.eraseIdxIfInBounds_toArray,Zc6]
 · rw [List.length_dropLast]
   omega
def rClear:V->List V->Hp->VK->Prop:=λx vs H Q=>∃l xs,x = .ref l/\vs=[]/\H l=some (.lst xs)/\Q .non (upd H l (.lst []))
theorem Zcp:MtM X "list.clear" rClear:=by
 intro pins s σ H x vs v us Q I rx rv h;obtain⟨l,xs,rfl,rfl,hH,q⟩:=h;cases rx;have hus:=rv.zero;subst hus;obtain⟨z,its,n,r,hl,e⟩:=I.lstM hH;refine call_meets F.slot_list_clear ⟨_,e,rfl⟩ F.entry_list_clear (F.args_list_clear_1 _) (AutoSeq1.list_clear_list_0 l its.toArray n (by rw [List.size_toArray];omega)) ⟨e,?_⟩;exact⟨.non,_,I.lset (its':=[]) (ys:=[]) hH e rfl .nil (Nat.zero_le _),rfl,q⟩
def ZlE:R2:=λx y H Q=>∃l b xs zs,x = .ref l/\y = .ref b/\H l=some (.lst xs)/\H b=some (.lst zs)/\xs.length+zs.length<=sizeLine/\∀p,H p=none->Q (.ref p) (upd H p (.lst (xs++zs)))
theorem Zhd{α:Type}(xs:List α)(k:Nat):(List.replicate k xs).flatten.length=k*xs.length:=by
 induction k with
 |zero=>simp
 |succ k ih=>rw [List.replicate_succ,List.flatten_cons,List.length_append,ih,Nat.succ_mul,Nat.add_comm]
end
section
variable{prog:Program}{w:World}{A:Around}{E:Value->Shared->Prop}{s:Shared}
set_option maxRecDepth 100000 in
end
section
variable{X:Cx}
end
end L2
namespace Att
open PySem PySem.W PySem.Calls PyProof.Rows
theorem ZaO{P:Params}{h:Heap}:∀(ns:List Int)(vs:List Value),WellAll P h vs (ns.map WData.int)->IntsAre vs ns:=by
 intro ns
 induction ns with
 |nil=>
  intro vs w;rw [List.map_nil]at w;cases w;exact .nil
 |cons n ns ih=>
  intro vs w;rw [List.map_cons]at w;cases w with
  |cons a b=>
   cases a;exact .cons _ _ (ih _ b)
theorem Zer {l:OpenLaw} {n:Nat} (hn:l.most=some n) {P:Params} {h:Heap} {args:List WData} {vals:List Value}
 (hpre:l.row.toRowW.claim.pre args=true) (hwl:WellAll P h vals args) :
 ∃a vs ns,vals=[Value.ref a]/\args=[WData.list (ns.map WData.int)]/\h.get? a=some { cls := .type "list",data := .seq vs.toArray }/\IntsAre vs ns/\ns.length<=n:=by
 have hsh:WShape.hasAll [] args [.list .int]=true:=(pre_splitW hpre).1;have hc:l.pre.holds [] { args:=args }=true:=(pre_splitW hpre).2;obtain⟨d,r,rfl,h1,h2⟩:=hasAllW_cons hsh;obtain rfl:=hasAllW_nil h2;obtain⟨xs,rfl,h3⟩:=hasW_list h1;obtain⟨ns,rfl⟩:=items_int h3
 have hlen:ns.length<=n:=by
  unfold OpenLaw.pre at hc
  have h4:(WTm.not (.lt (.lit (.int (n:Int))) (.len (.arg 0)))).holds [] { args:=[.list (ns.map .int)] }=true:=by
   have h4:=(holds_andW hc).1;rw [hn]at h4;exact h4
  have h5:=condW_of h4 (w_not (w_lt w_lit (w_len_list (w_arg rfl))));rw [List.length_map]at h5;refine Nat.le_of_not_lt λq => ?_
  have q':(n:Int)<((ns.length:Nat):Int):=by omega
  first
   |(rw [decide_eq_true q']at h5;exact absurd h5 (by decide))
   |(simp at h5;omega)
 cases hwl with
 |cons w1 w2=>
  cases w2;cases w1 with
  |list ho hall=>exact⟨_,_,ns,rfl,rfl,ho,ZaO ns _ hall,hlen⟩
theorem Zes(l:OpenLaw)(args:List WData):l.row.toRowW.claim.post args (.bool true) args=true:=
 postW_of (r:=l.row.toRowW) (X:=(true == true))
  (show WShape.has [] (.bool true) .bool=true by first|rfl|decide|simp [WShape.has,WShape.arms,WShape.armsAll])
  (show(WTm.eq .res (.lit (.bool true))).value [] { args:=args,res:=some (.bool true),after:=args }=some (.bool (true == true))from w_eq_bool (w_res rfl) w_lit) rfl
theorem attach_call {l:OpenLaw} {n:Nat} {q:Program} {loose:List Str} {XP:(Str->Option Value)->Heap->Prop} {YP:World->Heap->Prop} {d:DefRec}
 (hn:l.most=some n) (hdf:d.params.defaults=[])
 (call:∀(w:World)(s₀ s₁:Shared)(mg mb:Str->Option Value)(fa:Addr)(o:Obj)(pm cd doc:Value)(a:Addr)(vs:List Value)(ns:List Int),
   Ground q loose [] XP w s₀ mg mb s₁.heap->YP w s₁.heap ->
   s₁.heap.get? fa=some o->o.data = .func (docDef d.name d.params d.body d.scope pm cd doc)->s₁.heap.CodeRec cd d.name->mg d.name=some (.ref fa) ->
   s₁.heap.get? a=some { cls := .type "list",data := .seq vs.toArray }->IntsAre vs ns->ns.length<=n->s₁.gens = #[] ->
   codeAny (model l.prog w) callerA (.call (.ref fa) ⟨[.ref a],[]⟩) (λr s'=>r = .ok (.ret (.bool true))/\OldK s₁.heap s'.heap/\s'.os=s₁.os/\AllBare s'.gens) s₁) :
 WalkO q loose XP YP l.row.toRowW d [] (λf vs=>PySem.call f vs):=by
 intro w s₀ s₁ mg mb G Y fa o pm cd doc dV kV ho hd hcd hD hmg hg args vals as hpre hlay hrd hwl hlo;obtain rfl:dV = .none:=Dflts.none hD hdf;obtain rfl:kV = .none:=Dflts.noKw hD;obtain⟨a,vs,ns,rfl,rfl,hobj,hints,hlen⟩:=Zer hn hpre hwl;refine enter_call (codeAny_mono (call w s₀ s₁ mg mb fa o pm cd doc a vs ns G Y ho (fd_plain hd) hcd hmg hobj hints hlen hg) λr s' hq => ?_);obtain⟨rfl,h2,h3,h4⟩:=hq
 exact⟨.inl ⟨.bool true,.bool true,[],rfl,λ_=>rfl,.bool true,Zes l _,λ_=>⟨List.Pairwise.nil,λ_ hm=>(nomatch hm)⟩⟩,h2,h3,h4⟩
section
variable{prog:Program}{w:World}{A:Around}{E:Value->Shared->Prop}{s:Shared}{K:Frag}
end
end Att
namespace L2
open PySem PySem.Spec PyProof.Rows
theorem Zbl:∀{vs:List Value}{ns:List Int},IntsAre vs ns->Vals (ns.map V.int) vs
 |_,_,.nil => .nil
 |_,_,.cons n t h => .cons ⟨t,rfl⟩ (Zbl h)
def ZjJ(H:Hp):Prop:=∀b,H b=none\/∃o xs,H b=some (.frz o (.lst xs))
theorem Zfb {P:Program} {w:World} {K:PySem.W.Frag} {mg mb:Str->Option Value} {CX:CXT} {k:Nat} {fa a:Addr} {fd:FuncData} {x:Str} {sp:Sp} {s₁:Shared} {vs:List Value} {ns:List Int}
 (KX:K.In s₁.heap) (hns:s₁.heap.Ns mainGlobals mg) (hb:s₁.heap.Ns builtinsNs mb) (hbb:∀x:Str,x ≠ "__name__" -> mb x=bootBuiltins x) (hlim:s₁.heap.NoLimit) (hg:s₁.gens = #[])
 (ha:s₁.heap.get? a=some { cls := .type "list",data := .seq vs.toArray }) (hi:IntsAre vs ns) (hl:ns.length<=sizeLine) (hr:Room k callerA)
 (F:∀base:Heap,K.In base->base.Ns mainGlobals mg->FnOk P w K mg base CX k fa fd [x] sp) (hbind:∀(s:Shared)(u:Value),BindsTo s fd ⟨[u],[]⟩ [(x,u)])
 (hsp:∀H:Hp,ZjJ H->SqL K H a (ns.map V.int)->sp [.ref a] H (λv _=>v = .bl true) λ_ _ _=>False)
 (hCX:∀H e s',CX [] H s₁ (λ_ _ _=>False) e s'->False) :
 codeAny (model P w) callerA (.call (.ref fa) ⟨[.ref a],[]⟩) (λr s'=>r = .ok (.ret (.bool true))/\OldK s₁.heap s'.heap/\s'.os=s₁.os/\AllBare s'.gens) s₁:=by
 have rv:=Zbl hi;have lenV:=hi.length
 have core:∀H:Hp,ZjJ H->SqL K H a (ns.map V.int)->HOk P w H s₁.heap->(∀b,H b≠none->b=a)->(H a≠none->K.lookup a=none) ->
  codeAny (model P w) callerA (.call (.ref fa) ⟨[.ref a],[]⟩) (λr s'=>r = .ok (.ret (.bool true))/\OldK s₁.heap s'.heap/\s'.os=s₁.os/\AllBare s'.gens) s₁:=by
  intro H hO hS hok hA hK;have base_of:∀{b:Addr}{o:Obj},s₁.heap.get? b=some o->H b=none->(Vs s₁.heap H).get? b=some o:=λe n=>Ze2 e n
  have noA:∀{b:Addr}{o:Obj}{es:Array DictEntry}{ep:Nat},s₁.heap.get? b=some o->o.data = .dict es ep->H b=none:=λ{b o es ep} e d=>by
   cases q:H b with
   |none=>rfl
   |some u=>
    have e':b=a:=hA b (by rw [q];simp);subst e';rw [ha]at e;cases e;have d':Data.seq vs.toArray _=Data.dict es ep:=d;cases d'
  have nsK:∀{b:Addr}{m:Str->Option Value},s₁.heap.Ns b m->(Vs s₁.heap H).Ns b m:=λ{b m} ⟨o,es,ep,e,d,r⟩=>⟨o,es,ep,base_of e (noA e d),d,r⟩
  have hKb:K.In (Vs s₁.heap H):=λb o e=>base_of (KX b o e) (by
   cases q:H b with
   |none=>rfl
   |some u=>
    have e':b=a:=hA b (by rw [q];simp);subst e';rw [hK (by rw [q];simp)]at e;cases e)
  have hM:Mod K mg (Vs s₁.heap H):=⟨hKb,nsK hns,⟨mb,nsK hb,hbb⟩,let⟨mc,h1,h2⟩:=hlim;⟨mc,nsK h1,h2⟩⟩
  have e0:Env0 P w K mg (Vs s₁.heap H) callerA [] s₁ H:=⟨rfl,hM,λb o e=>Zg5 e,Nat.le_of_eq (Zej _ _),trivial,λb hb=>absurd (show b∈([]:List Addr)from hb) (by simp),hok,.of_eq hg⟩
  refine codeAny_mono ((F _ hKb (nsK hns)).run callerA [] s₁ H ⟨[.ref a],[]⟩ [.ref a] [.ref a] _ _ hr e0 (hbind s₁ (.ref a)) (.cons rfl .nil) (hsp H hO hS)) λr s' h => ?_
  cases r with
  |error e=>exact(hCX H e s' h).elim
  |ok fl=>
   cases fl with
   |next=>exact False.elim h
   |brk=>exact False.elim h
   |cont=>exact False.elim h
   |ret u=>
    obtain⟨v,H',os,bare,un,hok',r',q⟩:=h;have q':v = .bl true:=q;subst q';obtain rfl:u=Value.bool true:=r';refine⟨rfl,OldK.of_keep λb o e => ?_,os,bare⟩;cases q:H b with
    |none=>exact un.keep b o e q (by intro z;exact absurd (show b∈([]:List Addr)from z) (by simp)) (by simp)
    |some u=>
     rcases hO b with z|⟨ob,xs,z⟩
     · rw [q]at z;cases z
     · have z2:=un.frzs b ob _ z
       obtain⟨e1,_⟩:=hok b _ z;obtain⟨e2,_⟩:=hok' b _ z2;rw [e]at e1;cases e1;exact e2
 cases hk:K.lookup a with
 |some o=>
  have e:=KX a o hk;rw [ha]at e;cases e;refine core (λ_=>none) (λ_ => .inl rfl) (.inr ⟨_,vs.toArray,_,hk,rfl,rfl,rfl,by rw [List.size_toArray,lenV];exact hl,by simpa using rv⟩) (λb u z=>by have z':(none:Option HO)=some u:=z;cases z') (λb z=>absurd rfl z) λz=>absurd rfl z
 |none=>
  refine core (λb=>if b=a then some (.frz { cls := .type "list",data := .seq vs.toArray } (.lst (ns.map V.int)))else none) (λb => ?_) (.inl (.inr ⟨{ cls := .type "list",data := .seq vs.toArray },if_pos rfl⟩)) (λb u z => ?_) (λb z => ?_) λ_=>hk
  · by_cases hb:b=a
    · exact .inr ⟨_,_,if_pos hb⟩
    · exact .inl (if_neg hb)
  · by_cases hb:b=a
    · have z':=(if_pos hb).symm.trans z
      cases z';subst hb;exact⟨ha,by rw [List.length_map];exact hl,vs,_,rv,ha⟩
    · have z':=(if_neg hb).symm.trans z
      cases z'
  · by_cases hb:b=a
    · exact hb
    · exact absurd (if_neg hb) z
end L2
namespace L2
open PySem PySem.Spec PyProof.Rows
theorem walk_of {l:PySem.W.OpenLaw} {n k:Nat} {q:Program} {loose:List Str} {XP:(Str->Option Value)->Heap->Prop} {YP:World->Heap->Prop} {d:DefRec} {K:Params->PySem.W.Frag} {CX:World->CXT} {sp:World->Sp} {x:Str}
 (hn:l.most=some n) (hn2:n<=sizeLine) (hdf:d.params.defaults=[]) (hr:Room k callerA)
 (hY:∀(w:World)(h:Heap),YP w h->(K w.params).In h)
 (F:∀(w:World)(mg:Str->Option Value)(fa:Addr)(h:Heap),(K w.params).In h->h.Ns mainGlobals mg->mg d.name=some (.ref fa) ->
   ∃fd:FuncData,(∀(s:Shared)(u:Value),BindsTo s fd ⟨[u],[]⟩ [(x,u)]) /\
    ∀base:Heap,(K w.params).In base->base.Ns mainGlobals mg->FnOk l.prog w (K w.params) mg base (CX w) k fa fd [x] (sp w))
 (hsp:∀(w:World)(H:Hp)(a:Addr)(ns:List Int),ns.length<=n->ZjJ H->SqL (K w.params) H a (ns.map V.int)->sp w [.ref a] H (λv _=>v = .bl true) λ_ _ _=>False)
 (hCX:∀(w:World)(H:Hp)(s:Shared)(e:Value)(s':Shared),CX w [] H s (λ_ _ _=>False) e s'->False) :
 PySem.W.WalkO q loose XP YP l.row.toRowW d [] (λf vs=>PySem.call f vs):=by
 refine Att.attach_call hn hdf λw s₀ s₁ mg mb fa o pm cd doc a vs ns G Y ho hd hcd hmg hobj hints hlen hg => ?_
 have KX:=hY w _ Y;obtain⟨fd,hb,hF⟩:=F w mg fa _ KX G.T.g hmg;exact Zfb KX G.T.g G.T.b G.T.builtins G.T.nolimit hg hobj hints (Nat.le_trans hlen hn2) hr hF hb (λH hO hS=>hsp w H a ns hlen hO hS) λH e s'=>hCX w H s₁ e s'
end L2
namespace L2
open PySem PySem.Spec PyProof.Rows
def ZdJ(s:Stmt)(j:Nat):Stmt:=match s with
 | .ClassDef _ _ _ body _ _ _ _ _ _ _=>body.getD j (.Pass ⟨0,0,0,0⟩)
 |_ => .Pass ⟨0,0,0,0⟩
def defArgs(s:Stmt):Arguments:=match s with
 | .FunctionDef _ a _ _ _ _ _ _ _ _=>a
 |_=>{ posonlyargs:=[],args:=[],vararg:=none,kwonlyargs:=[],kw_defaults:=[],kwarg:=none,defaults:=[] }
def defBody(s:Stmt):List Stmt:=match s with
 | .FunctionDef _ _ b _ _ _ _ _ _ _=>b
 |_=>[]
def defScope(s:Stmt):Scope:=match s with
 | .FunctionDef _ _ _ _ _ _ sc _ _ _=>sc
 |_=>{ kind := .function,names:=[],isGenerator:=false,isCoroutine:=false }
abbrev CX0:CXT:=λ_ _ _ _ _ _=>False
abbrev E0:XK:=λ_ _ _=>False
theorem Z3{X:Cx}:Qg CX0 X E0:=λ_ _ _ _ _ _ _ h=>h.elim
structure Fun(K:PySem.W.Frag)(x qual:Str)(st:Stmt)(f:Addr)(fd:FuncData):Prop where
 ex:∃(oc:Value) (od:Option Addr) (kV doc pm:Value) (an:Option Addr) (cdv ct:Value) (osl:Array (Option Value)),
  fd=fnOf x qual (defArgs st) (defBody st) (defScope st) .none kV doc pm an cdv ct/\K.lookup f=some ⟨oc,od,.func fd,osl⟩/\codeIn K cdv qual=true
 kp:keepIn K (.ref f)=true
section
variable{P:Program}{w:World}{K:PySem.W.Frag}{mg:Str->Option Value}{base:Heap}
theorem Fun.ok {x qual:Str} {st:Stmt} {f:Addr} {fd:FuncData} {N ps:List Str} {k:Nat} {sp:Sp} (F:Fun K x qual st f fd) (S:FnScope N ps (defScope st)) (len:∀vs H Q E,sp vs H Q E->vs.length=ps.length)
 (hbody:∀(cdv:Value)(A:Around)(outer:List Env)(s:Shared)(H:Hp)(vs:List V)(Q:VK)(E:XK),Room k (A.deeper (envOfC qual (defScope st) s.heap.objs.size f cdv))->sp vs H Q E ->
   ∃t,PSs (XW CX0 P w K mg base N qual (defScope st) f cdv A outer s H E).nox (defBody st) t/\t { nx:=λ_ H'=>Q .non H',rt:=Q } (start N vs) H):FnOk P w K mg base CX0 (k+1) f fd ps sp:=by
 obtain⟨oc,od,kV,doc,pm,an,cdv,ct,osl,rfl,lk,hcd⟩:=F.ex;refine Zih lk hcd S len λA outer s H vs Q E hr hsp => ?_
 obtain⟨t,h,q⟩:=hbody cdv A outer s H vs Q E hr hsp;exact⟨t,h.nox,q⟩
theorem Fun.binds {x qual:Str} {st:Stmt} {f:Addr} {fd:FuncData} {ps:List Str} (F:Fun K x qual st f fd)
 (h:∀(kV doc pm:Value)(an:Option Addr)(cdv ct:Value)(us:List Value),us.length=ps.length->bindArgs (fnOf x qual (defArgs st) (defBody st) (defScope st) .none kV doc pm an cdv ct) ⟨us,[]⟩=pure (ps.zip us)):Binds K fd ps []:=by
 obtain⟨oc,od,kV,doc,pm,an,cdv,ct,osl,rfl,lk,hcd⟩:=F.ex;exact .all (h kV doc pm an cdv ct)
theorem ZP {x qual:Str} {st:Stmt} {f:Addr} {oc:Value} {od an:Option Addr} {osl:Array (Option Value)} {kV doc pm cdv ct:Value} (l:K.lookup f=some ⟨oc,od,.func (fnOf x qual (defArgs st) (defBody st) (defScope st) .none kV doc pm an cdv ct),osl⟩)
 (c:codeIn K cdv qual=true) (k:keepIn K (.ref f)=true):Fun K x qual st f (fnOf x qual (defArgs st) (defBody st) (defScope st) .none kV doc pm an cdv ct):=⟨⟨oc,od,kV,doc,pm,an,cdv,ct,osl,rfl,l,c⟩,k⟩
end
section
variable{X:Cx}
theorem pv (i:Nat) {x:Str} {pos:Pos} (hN:X.N[i]? = some x:=by rfl) (hv:Vis X.env.scope x:=by first|exact Or.inl rfl|exact Or.inr (Or.inl rfl)|exact Or.inr (Or.inr rfl)) (hd:(x == ("__debug__" : Str))=false:=by decide)
 (hcd:(x == ("__classdict__" : Str))=false:=by decide):PE X (.Name x pos) (Yy i):=ZiR hN hv hd hcd
end
theorem XX{A B:Prop}(h:B):if false=true then A else B:=by
 rw [if_neg Bool.false_ne_true];exact h
theorem XY{A B:Prop}(h:A):if true=true then A else B:=by
 rw [if_pos rfl];exact h
def Same(H H':Hp):Prop:=∀b o,H b=some o->H' b=some o
theorem Same.refl(H:Hp):Same H H:=λ_ _ h=>h
theorem Same.trans{H H1 H2:Hp}(a:Same H H1)(b:Same H1 H2):Same H H2:=λc o h=>b c o (a c o h)
theorem Same.free{H H':Hp}(e:Same H H'){l:Addr}(h:H' l=Option.none):H l=Option.none:=by
 cases q:H l with
 |none=>rfl
 |some o=>
  rw [e l o q]at h;cases h
theorem Same.seq{K:PySem.W.Frag}{H H':Hp}{a:Addr}{xs:List V}(e:Same H H')(h:SqL K H a xs):SqL K H' a xs:=by
 rcases h with(h|⟨o,h⟩)|h
 · exact .inl (.inl (e _ _ h))
 · exact .inl (.inr ⟨o,e _ _ h⟩)
 · exact .inr h
end L2
namespace HT
open PySem PySem.W PySem.Calls PyProof.Rows
def de(P:Params)(x:Str)(t:Nat)(v:Value):DictEntry:=⟨PyData.keyHash P x,.str x t,v⟩
def dO(c:Value)(es:List DictEntry)(n:Nat):Obj:=⟨c,none,.dict es.toArray n,#[]⟩
def cO(vs:List Value):Obj:=⟨.type "code",none,.fields vs.toArray,#[]⟩
def fO(x q:Str)(st:Stmt)(dv kv doc pm:Value)(an:Option Addr)(cd ct:Value):Obj:=⟨.type "function",none,.func (fnOf x q (L2.defArgs st) (L2.defBody st) (L2.defScope st) dv kv doc pm an cd ct),#[]⟩
def c3(x q:Str)(t l a n r:Nat)(r2:Nat)(v w:Value)(r3 k k2:Nat):Obj:=cO [.str x t,.str q (t+1),.str "/claim/cut.py" (t+2),.int l 0,.int a 0,.int 0 0,.int 0 0,.int n 0,.ref r,.bool true,.int 181 0,.ref r2,.none,v,w,.ref r3,.int k 0,.int l 0,.str "/claim/cut.py" k2]
def f3(x q:Str)(st:Stmt)(m:Str)(t c:Nat):Obj:=fO x q st .none .none .none (.str m t) none (.ref c) .none
def met{α:Type}(_:α):Bool:=true
noncomputable def ZjY(P:Params):BT:=
 ((((((((((BT.nil.ins 0 (boot_o_0 P)).ins 1 (boot_o_1 P)).ins 2 (boot_o_2 P)).ins 3 (boot_o_3 P)).ins 4 (boot_o_4 P)).ins 5 (boot_o_5 P)).ins 6 (boot_o_6 P)).ins 7 (boot_o_7 P)).ins 8 (boot_o_8 P)).ins 9 (boot_o_9 P)).ins 10 (boot_o_10 P)
noncomputable abbrev S0(w:World)(os:OsState):Shared:=⟨boot_heap w.params,Array.mk [],boot_drawn,boot_toks,os⟩
noncomputable abbrev S0T(w:World)(os:OsState):SharedT:=⟨ZjY w.params,11,(boot_heap w.params).life,Array.mk [],boot_drawn,boot_toks,os⟩
theorem ZlF(w:World)(os:OsState):(S0T w os).abs=S0 w os:=rfl
noncomputable def ZjK(thr ok:Thread->Bool)(st:SharedT->Thread->Option (SharedT×Thread))(n:Nat):SharedT->Thread->Option SharedT:=
 @Nat.rec (λ_=>SharedT->Thread->Option SharedT) (λ_ _=>none)
  (λ_ ih s t => @Bool.rec (λ_=>Option SharedT) (@Bool.rec (λ_=>Option SharedT) none (@Option.rec (SharedT×Thread) (λ_=>Option SharedT) none (λr=>ih r.1 r.2) (st s t)) (ok t)) (some s) (thr t)) n
theorem Zcq{tb:String->Option Builtin}{p:Program}{w:World}{n₀:Nat}{ann:Option Value}:∀{n:Nat}{s s':SharedT}{t:Thread},ZjK through (stepOk n₀ ann) (stepT (denote tb) p w) n s t=some s'->topRun tb p w n₀ ann n s.abs t=some s'.abs
 |0,_,_,_,h=>by cases h
 |n+1,s,s',t,h=>by
  replace h : @Bool.rec (λ_=>Option SharedT) (@Bool.rec (λ_=>Option SharedT) none (@Option.rec (SharedT×Thread) (λ_=>Option SharedT) none (λr=>ZjK through (stepOk n₀ ann) (stepT (denote tb) p w) n r.1 r.2) (stepT (denote tb) p w s t)) (stepOk n₀ ann t)) (some s) (through t)=some s':=h;unfold topRun;cases ht:through t with
  |true=>rw [ht]at h;cases h;rfl
  |false=>
   rw [ht]at h;cases hk:stepOk n₀ ann t with
   |false=>rw [hk]at h;cases h
   |true=>
    rw [hk]at h;cases hs:stepT (denote tb) p w s t with
    |none=>rw [hs]at h;cases h
    |some r=>obtain⟨s₂,t₂⟩:=r;rw [hs]at h;rw [stepT_spec hs];exact Zcq h
theorem left_of {p q:Program} {loose:List Str} {Xt:Shared->Bool} {α:Type} {Yf:Shared->α} {Ya:World->α} {N:Nat}
 (e:opening p=plainProg p.main.scope.names) (hN:Nat.ble 600 N=true) (f:∀s,fenceModules? p s=some s)
 (run:∀w:World,(λos=>(ZjK through (stepOk 11 (some (.ref 6))) (stepT (denote treeTable) p w) N (S0T w os) (topStub p)).map λs=>((staticsOk (importedModules p.main.body) (boot_heap w.params) s.abs.heap&&namesBound p s.abs.heap&&gensDone s.abs&&laidKept (boot_heap w.params) s.abs.heap),
   openSeen q loose (importedModules p.main.body) Xt true s.abs,Yf s.abs))=λ_=>some (true,openGood q loose,Ya w)):LeftO p q loose Xt Yf Ya N:=λw=>by
 obtain⟨⟨h,gs,d,k,os⟩,e,e'⟩:=Option.map_eq_some_iff.mp (boot_open e hN f w);obtain⟨rfl,rfl,rfl,rfl⟩:h=boot_heap w.params/\gs=Array.mk []/\d=boot_drawn/\k=boot_toks:=by simpa using e'
 obtain⟨s1,r,l⟩:=Option.map_eq_some_iff.mp (congrFun (run w) os);obtain⟨l1,l2,l3⟩:_/\_/\_:=by simpa only [Prod.mk.injEq]using l
 have r:=Zcq r;rw [ZlF]at r;have z1:((boot_heap w.params).isNs mainGlobals&&(Array.mk []:Array GenState).size == 0)=true:=by kernel_rfl
 have z2:(boot_heap w.params).objs.size=11:=rfl;have z3:(boot_heap w.params).nsMap mainGlobals "__annotations__" = some (.ref 6):=by kernel_rfl
 have t:topFrom treeTable p w N (S0 w os)=some s1.abs:=by
  unfold topFrom;dsimp only;rw [z1,z2,z3,r];show(match staticsOk (importedModules p.main.body) (boot_heap w.params) s1.abs.heap&&namesBound p s1.abs.heap&&gensDone s1.abs&&laidKept (boot_heap w.params) s1.abs.heap with|true=>_|false=>_)=_;rw [l1]
 unfold openEnds;rw [e];show(topFrom treeTable p w N _).map _=_;rw [t];exact congrArg some (Prod.ext l2 l3)
end HT
namespace L2
open PySem Builtin Builtin.Str
abbrev tx(cs:List Nat):Str:=⟨cs.toArray⟩
theorem tx_inj{a b:List Nat}:tx a=tx b ↔ a=b:=by
 constructor
 · intro h
   have h2:a.toArray=b.toArray:=congrArg Str.cps h;simpa using h2
 · rintro rfl;rfl
theorem Zdn(cs:List Nat):(tx cs).cps.toList=cs:=by simp [tx]
theorem Ve(cs:List Nat):(tx cs).length=cs.length:=by simp [tx,Str.length]
theorem Zi4(a b:List Nat):tx a++tx b=tx (a++b):=by
 show Str.mk (a.toArray++b.toArray)=Str.mk (a++b).toArray;simp
def Yk(n d:Nat):Option Int->Nat
 |none=>d
 |some v=>if v<0 then(v+(n:Int)).toNat else min v.toNat n
def cutL{α:Type}(xs:List α)(lo hi:Option Int):List α:=(xs.drop (Yk xs.length 0 lo)).take (Yk xs.length xs.length hi-Yk xs.length 0 lo)
theorem Zf9(lo hi:Option Int)(n:Nat):strSliceIndices lo hi 1 n=(List.range (Yk n n hi-Yk n 0 lo)).map λk=>Yk n 0 lo+k:=by
 have clip:∀v:Int,max 0 (min (if v<0 then v+(n:Int)else v) (n:Int))=(((if v<0 then(v+(n:Int)).toNat else min v.toNat n):Nat):Int):=by
  intro v
  by_cases h:v<0
  · rw [if_pos h,if_pos h];omega
  · rw [if_neg h,if_neg h];omega
 have key:∀(a b:Nat),sliceRange (a:Int) (b:Int) 1=(List.range (b-a)).map λk=>a+k:=by
  intro a b;unfold sliceRange;simp only [show(1:Int)>0 by decide,if_true]
  have e:(if(a:Int)<(b:Int)then((b:Int)-(a:Int)+1-1) / 1 else 0).toNat=b-a:=by
   split
   · rw [Int.ediv_one];omega
   · omega
  rw [e];refine List.map_congr_left λk _ => ?_
  omega
 unfold strSliceIndices;simp only [show(1:Int)>0 by decide,if_true];cases lo with
 |none=>
  cases hi with
  |none=>exact key 0 n
  |some v=>
   have:=key 0 (Yk n n (some v));refine Eq.trans ?_ this;show sliceRange 0 (max 0 (min (if v<0 then v+(n:Int)else v) (n:Int))) 1=_;rw [clip v];rfl
 |some u=>
  cases hi with
  |none=>
   have:=key (Yk n 0 (some u)) n;refine Eq.trans ?_ this;show sliceRange (max 0 (min (if u<0 then u+(n:Int)else u) (n:Int))) n 1=_;rw [clip u];rfl
  |some v=>
   have:=key (Yk n 0 (some u)) (Yk n n (some v));refine Eq.trans ?_ this;show sliceRange (max 0 (min (if u<0 then u+(n:Int)else u) (n:Int))) (max 0 (min (if v<0 then v+(n:Int)else v) (n:Int))) 1=_;rw [clip u,clip v];rfl
theorem Zcr{α:Type}(xs:List α)(l:Nat):∀k,l+k<=xs.length->((List.range k).map λj=>l+j).filterMap (λj=>xs[j]?)=(xs.drop l).take k
 |0,_=>by simp
 |k+1,h=>by
  rw [List.range_succ,List.map_append,List.filterMap_append,Zcr xs l k (by omega)];have hx:xs[l+k]? = some (xs[l+k]'(by omega)):=List.getElem?_eq_getElem (by omega);rw [List.take_add_one,List.getElem?_drop,hx];simp [hx]
theorem Zet(n:Nat)(o:Option Int):Yk n n o<=n:=by
 cases o with
 |none=>exact Nat.le_refl _
 |some v=>
  show(if v<0 then(v+(n:Int)).toNat else min v.toNat n)<=n
  split<;>omega
theorem Zfc(cs:List Nat)(lo hi:Option Int):Txt.slice (tx cs) lo hi=tx (cutL cs lo hi):=by
 have hn:(tx cs).length=cs.length:=Ve cs;have hb:=Zet cs.length hi
 have hp:((strSliceIndices lo hi 1 cs.length).filterMap λj=>cs[j]?)=cutL cs lo hi:=by
  rw [Zf9];unfold cutL
  by_cases h:Yk cs.length 0 lo<=Yk cs.length cs.length hi
  · exact Zcr cs _ _ (by omega)
  · have e:Yk cs.length cs.length hi-Yk cs.length 0 lo=0:=by omega
    rw [e];simp
 unfold Txt.slice;rw [hn]
 by_cases hc:((1:Int) == 1&&(strSliceIndices lo hi 1 cs.length).length == cs.length)=true
 · rw [if_pos hc]
   have hl:(strSliceIndices lo hi 1 cs.length).length=cs.length:=by simpa using hc
   rw [Zf9,List.length_map,List.length_range]at hl;have e0:Yk cs.length 0 lo=0\/cs.length=0:=by omega
   rw [tx_inj];unfold cutL;rw [hl];rcases e0 with e0|e0
   · rw [e0];simp
   · have:cs=[]:=List.eq_nil_of_length_eq_zero e0
     subst this;simp
 · rw [if_neg hc]
   have:((strSliceIndices lo hi 1 cs.length).filterMap λj=>(tx cs).cps[j]?)=cutL cs lo hi:=by
    rw [<-hp];simp [tx]
   rw [this]
end L2
namespace L2
open PySem Builtin Builtin.Str
end L2
namespace L2
open PySem PySem.Spec PyProof.Rows
section
variable{prog:Program}{w:World}{A:Around}{R:Result->Shared->Prop}{s:Shared}
theorem ZbL {elt target iter:Expr} {ifs:List Expr} {scope:Scope} {pos:Pos} {it acc:Value} {env:Env} (I:Nat->Shared->Prop)
 (turn:∀n s,I n s->wpAny (model prog w) A (pyNext it) (λr s₁=>match r with
   |none=>R (.ok .next) s₁
   |some v=>wpAny (model prog w) A (letOwnedTupleGo target it v) (λ_ s₀=>wpAny (model prog w) A (assign target env v) (λ_ s₂=>
    wpAny (model prog w) A (forIn ifs true λc r=>if r=true then do let ok <-isTrue c env (eval c env);pure (ForInStep.yield ok)else pure (ForInStep.yield r)) (λok s₃=>
     if ok=true then wpAny (model prog w) A (eval elt env) (λx s₄=>
      wpAny (model prog w) A (call (.builtin "list.append") [acc,x]) (λ_ s₅=>∃m,m<n/\I m s₅) (notedBy (model prog w) A env λe s'=>R (.error e) s') s₄) (notedBy (model prog w) A env λe s'=>R (.error e) s') s₃
     else ∃m,m<n/\I m s₃) (notedBy (model prog w) A env λe s'=>R (.error e) s') s₂) (notedBy (model prog w) A env λe s'=>R (.error e) s') s₀) (notedBy (model prog w) A env λe s'=>R (.error e) s') s₁) (notedBy (model prog w) A env λe s'=>R (.error e) s') s)
 (n:Nat) (h:I n s) :
 codeAny (model prog w) A (.compLoop (.ListComp elt [⟨target,iter,ifs,0⟩] scope pos) 0 it acc env) R s:=by
 refine codeAny_loop rfl I (λn s hI => ?_) n h;show wpAny _ A ((compTurn (.ListComp elt [⟨target,iter,ifs,0⟩] scope pos) 0 it acc env).onRaise (λx=>do noteFrame x env;theTreesLotGoes x)) _ _ s;refine wpAny_noted ?_;rw [compTurn_list];refine wpAny_bind (wpAny_standAt (wpAny_bind (wpAny_mono (turn n s hI) (λr s₁ h₁ => ?_) λ_ _ h'=>h')));cases r with
 |none=>exact wpAny_pure h₁
 |some v=>
  refine wpAny_bind (wpAny_mono h₁ (λ_ s₀ h₀ => ?_) λ_ _ h'=>h');refine wpAny_bind (wpAny_mono h₀ (λ_ s₂ h₂=>wpAny_bind (wpAny_mono h₂ (λok s₃ h₃ => ?_) λ_ _ h'=>h')) λ_ _ h'=>h');cases ok with
  |false=>exact wpAny_pure ⟨rfl,h₃⟩
  |true=>
   exact wpAny_bind (wpAny_bind (wpAny_mono h₃ (λx s₄ h₄=>wpAny_bind (wpAny_mono h₄ (λ_ s₅ h₅=>wpAny_pure (wpAny_pure ⟨rfl,h₅⟩)) λ_ _ h'=>h')) λ_ _ h'=>h'))
end
def Y3(cells:List (Str×Addr)):List (Str×NameKind)->List (Str×Addr)->List (Str×Addr)
 | [],acc=>acc
 |(n,k)::r,acc=>Y3 cells r (if(k == .free)=true then(n,(cells.lookup n).getD 0)::acc else acc)
theorem Zab{env:Env}:∀(names:List (Str×NameKind))(acc:List (Str×Addr)),(∀x∈names,x.2 = .free->∃c,env.cells.lookup x.1=some c) ->
 (forIn names acc λ(x:Str×NameKind) (r:List (Str×Addr))=>match x with
   |(name,kind)=>if(kind == .free)=true then(do let c <-cellOf env name;pure (ForInStep.yield ((name,c)::r)))else pure (ForInStep.yield r))=(pure (Y3 env.cells names acc):Sem _)
 | [],acc,_=>rfl
 |(n,k)::r,acc,h=>by
  rw [List.forIn_cons];show((if(k == .free)=true then(do let c <-cellOf env n;pure (ForInStep.yield ((n,c)::acc)))else pure (ForInStep.yield acc)) >>= _)=_
  by_cases hk:(k == .free)=true
  · obtain⟨c,hc⟩:=h (n,k) List.mem_cons_self (by simpa using hk)
    have e:cellOf env n=pure c:=by
     unfold cellOf;rw [hc]
    rw [if_pos hk,e];show(forIn r ((n,c)::acc) _:Sem _)=_;rw [Zab r _ λx hx=>h x (List.mem_cons_of_mem _ hx)]
    conv=>rhs;unfold Y3
    rw [if_pos hk,hc];rfl
  · rw [if_neg hk]
    show(forIn r acc _:Sem _)=_;rw [Zab r _ λx hx=>h x (List.mem_cons_of_mem _ hx)]
    conv=>rhs;unfold Y3
    rw [if_neg hk]
theorem Zai{scope:Scope}{env:Env}(h:∀x∈scope.names,x.2 = .free->∃c,env.cells.lookup x.1=some c):closureFor scope env=pure (Y3 env.cells scope.names []):=by
 have e:=Zab (env:=env) scope.names [] h;unfold closureFor;show((forIn scope.names ([]:List (Str×Addr)) _:Sem _) >>= λcs=>pure cs)=_
 have e2:(forIn scope.names ([]:List (Str×Addr)) λ(x:Str×NameKind) (r:List (Str×Addr))=>match x with
  |(name,kind)=>if(kind == .free)=true then(do let c <-cellOf env name;pure (ForInStep.yield ((name,c)::r)))else pure (ForInStep.yield r))=(pure (Y3 env.cells scope.names []):Sem _):=e
 rw [e2];rfl
theorem Vw{cells:List (Str×Addr)}{x:Str}{c:Addr}:∀(names:List (Str×NameKind))(acc:List (Str×Addr)),(∀y∈names,y.2 = .free->∃c,cells.lookup y.1=some c) ->
 (∀c,acc.lookup x=some c->cells.lookup x=some c)->(Y3 cells names acc).lookup x=some c->cells.lookup x=some c
 | [],acc,_,ha,h=>ha c h
 |(n,k)::r,acc,hf,ha,h=>by
  unfold Y3 at h;refine Vw r _ (λy hy=>hf y (List.mem_cons_of_mem _ hy)) (λc' h' => ?_) h
  by_cases hk:(k == .free)=true
  · rw [if_pos hk]at h'
    obtain⟨c0,hc0⟩:=hf (n,k) List.mem_cons_self (by simpa using hk);rw [List.lookup_cons]at h';cases hx:x == n with
    |true=>
     rw [hx]at h';have e:x=n:=eq_of_beq hx;subst e;have h'':(cells.lookup x).getD 0=c':=Option.some.inj h';have hc0':cells.lookup x=some c0:=hc0;rw [hc0']at h'' ⊢;exact congrArg some h''
    |false=>
     rw [hx]at h';exact ha c' h'
  · rw [if_neg hk]at h'
    exact ha c' h'
theorem Zar{cells:List (Str×Addr)}{x:Str}:∀(names:List (Str×NameKind))(acc:List (Str×Addr)),((x,NameKind.free)∈names\/∃c,acc.lookup x=some c)->∃c,(Y3 cells names acc).lookup x=some c
 | [],acc,h=>by
  rcases h with h|h
  · cases h
  · exact h
 |(n,k)::r,acc,h=>by
  unfold Y3;refine Zar r _ ?_;rcases h with h|⟨c,h⟩
  · rcases List.mem_cons.mp h with e|e
    · cases e
      refine .inr ⟨(cells.lookup x).getD 0,?_⟩;rw [if_pos (by rfl),List.lookup_cons];simp
    · exact .inl e
  · refine .inr ?_
    by_cases hk:(k == .free)=true
    · rw [if_pos hk,List.lookup_cons]
      cases hx:x == n with
      |true=>exact⟨_,rfl⟩
      |false=>exact⟨c,h⟩
    · rw [if_neg hk]
      exact⟨c,h⟩
structure CompSc(X:Cx)(scope:Scope)(tn cn:List Str)(js:List Nat):Prop where
 kind:scope.kind = .function
 nocell:∀y∈scope.names,y.2 ≠ .cell
 names:∀y∈scope.names,y.2 = .local->scope.names.lookup y.1=some .local
 free:∀y∈scope.names,y.2 = .free->X.env.kindOf y.1=some .cell\/X.env.kindOf y.1=some .free
 cap:∀(k:Nat)(x:Str),cn[k]? = some x->∃j,js[k]? = some j/\X.N[j]? = some x/\(X.env.kindOf x=some .cell\/X.env.kindOf x=some .free)/\scope.names.lookup x=some .free
 len:cn.length=js.length
def ZdK(onames:List (Str×NameKind))(oN:List Str)(names:List (Str×NameKind))(cn:List Str)(js:List Nat):Bool:=
 names.all (λy => !(y.2 == .cell))&&names.all (λy => !(y.2 == .local)||(names.lookup y.1 == some .local)) &&
 names.all (λy => !(y.2 == .free)||(onames.lookup y.1 == some .cell||onames.lookup y.1 == some .free)) &&
 ((cn.zip js).all λp=>oN[p.2]? == some p.1&&(onames.lookup p.1 == some .cell||onames.lookup p.1 == some .free)&&names.lookup p.1 == some .free)&&(cn.length == js.length)
theorem CompSc.mk'{X:Cx}{scope:Scope}{tn cn:List Str}{js:List Nat}{osc:Scope}{oN:List Str}(hk:scope.kind = .function)(ho:X.env.scope=osc)(hN:X.N=oN)(h:ZdK osc.names oN scope.names cn js=true):CompSc X scope tn cn js:=by
 unfold ZdK at h;simp only [Bool.and_eq_true]at h;obtain⟨⟨⟨⟨h1,h2⟩,h3⟩,h4⟩,h5⟩:=h;rw [List.all_eq_true]at h1 h2 h3 h4;have hlen:cn.length=js.length:=by simpa using h5
 refine⟨hk,λy hy => ?_,λy hy e => ?_,λy hy e => ?_,λk x e => ?_,hlen⟩
 · have:=h1 y hy
   simpa using this
 · have:=h2 y hy
   simpa [e]using this
 · have:=h3 y hy
   unfold Env.kindOf;rw [ho];simpa [e]using this
 · have hkl:k<cn.length:=(List.getElem?_eq_some_iff.mp e).1
   have hkj:k<js.length:=by omega
   refine⟨js[k],by simp [hkj],?_⟩
   have hz:(x,js[k])∈cn.zip js:=by
    have e2:(cn.zip js)[k]? = some (x,js[k]):=by
     rw [List.getElem?_zip_eq_some];exact⟨e,by simp [hkj]⟩
    exact List.mem_of_getElem? e2
   have:=h4 _ hz;unfold Env.kindOf;rw [ho,hN];simp only [Bool.and_eq_true,Bool.or_eq_true,beq_iff_eq]at this;exact⟨this.1.1,this.1.2,this.2⟩
def XG(σ:St)(js:List Nat):St:=js.map λj=>(σ[j]?).getD none
def blk(n:Nat)(σ:St)(js:List Nat):St:=List.replicate n none++XG σ js
def UP(X:Cx)(scope:Scope)(N':List Str)(C:Addr)(s₂:Shared)(H₂:Hp)(fp:List Addr)(xe:Value->Shared->Prop):Cx:=
 { X with N:=N',s₀:=s₂,H₀:=H₂,env:=compEnvC scope (Y3 X.env.cells scope.names []) C X.env,outer:=X.stack,ex:=fp,fn:=λ_=>false,pn:=[],xe:=xe }
section
variable{X:Cx}{pins:List (Addr×Obj)}{σ:St}{H₂:Hp}{s₂:Shared}{scope:Scope}{tn cn:List Str}{js:List Nat}
theorem CompSc.clos(S:CompSc X scope tn cn js)(ok:X.Ok):∀y∈scope.names,y.2 = .free->∃c,X.env.cells.lookup y.1=some c:=λy hy e=>ok.has y.1 (S.free y hy e)
theorem Zaa{env:Env}:∀{names:List (Str×NameKind)}{x:Str}{k:NameKind},(names.map λ(n,k)=>if(k == NameKind.free&&env.scope.kind == .function&&env.kindOf n == some .cell)then(n,NameKind.cell)else(n,k)).lookup x=some k ->
 (k = .cell\/k = .free)->(∀y∈names,y.2 ≠ .cell)->(x,NameKind.free)∈names
 | [],_,_,h,_,_=>by simp at h
 |(n,k0)::r,x,k,h,hk,hc=>by
  have ih := @Zaa env r x k;have h:List.lookup x ((if(k0 == NameKind.free&&env.scope.kind == .function&&env.kindOf n == some .cell)=true then(n,NameKind.cell)else(n,k0))::_)=_:=h
  by_cases hb:(k0 == NameKind.free&&env.scope.kind == .function&&env.kindOf n == some .cell)=true
  · rw [if_pos hb,List.lookup_cons]at h
    have e0:k0 = .free:=by
     simp only [Bool.and_eq_true]at hb;simpa using hb.1.1
    cases hx:x == n with
    |true=>
     have e:x=n:=eq_of_beq hx;subst e;subst e0;exact List.mem_cons_self
    |false=>
     rw [hx]at h;exact List.mem_cons_of_mem _ (ih h hk λy hy=>hc y (List.mem_cons_of_mem _ hy))
  · rw [if_neg hb,List.lookup_cons]at h
    cases hx:x == n with
    |true=>
     rw [hx]at h;have e:x=n:=eq_of_beq hx;have e0:k0=k:=Option.some.inj h;subst e;subst e0;rcases hk with hk|hk
     · exact absurd hk (hc (x,k0) List.mem_cons_self)
     · subst hk
       exact List.mem_cons_self
    |false=>
     rw [hx]at h;exact List.mem_cons_of_mem _ (ih h hk λy hy=>hc y (List.mem_cons_of_mem _ hy))
theorem Zan{env:Env}:∀{names:List (Str×NameKind)}{x:Str},names.lookup x=some .free ->
 (names.map λ(n,k)=>if(k == NameKind.free&&env.scope.kind == .function&&env.kindOf n == some .cell)then(n,NameKind.cell)else(n,k)).lookup x=some .cell \/
 (names.map λ(n,k)=>if(k == NameKind.free&&env.scope.kind == .function&&env.kindOf n == some .cell)then(n,NameKind.cell)else(n,k)).lookup x=some .free
 | [],_,h=>by simp at h
 |(n,k0)::r,x,h=>by
  have ih := @Zan env r x
  show List.lookup x ((if(k0 == NameKind.free&&env.scope.kind == .function&&env.kindOf n == some .cell)=true then(n,NameKind.cell)else(n,k0))::_)=_ \/
   List.lookup x ((if(k0 == NameKind.free&&env.scope.kind == .function&&env.kindOf n == some .cell)=true then(n,NameKind.cell)else(n,k0))::_)=_
  cases hx:x == n with
  |true=>
   simp only [List.lookup_cons,hx]at h;cases h
   by_cases hb:(NameKind.free == NameKind.free&&env.scope.kind == .function&&env.kindOf n == some .cell)=true
   · rw [if_pos hb];simp [List.lookup_cons,hx]
   · rw [if_neg hb];simp [List.lookup_cons,hx]
  |false=>
   simp only [List.lookup_cons,hx]at h
   by_cases hb:(k0 == NameKind.free&&env.scope.kind == .function&&env.kindOf n == some .cell)=true
   · rw [if_pos hb];simp only [List.lookup_cons,hx];exact ih h
   · rw [if_neg hb];simp only [List.lookup_cons,hx];exact ih h
theorem Zhe{C:Addr}{fp:List Addr}{xe:Value->Shared->Prop}(S:CompSc X scope tn cn js)(I:Inv X pins σ H₂ s₂)(hC:s₂.heap.objs.size<=C)(hf:∀b∈fp,Xs X pins H₂ b)(ho:∀b∈fp,∃o,s₂.heap.get? b=some o/\∀v,o.data ≠ .cell v) :
 (UP X scope (tn++cn) C s₂ H₂ fp xe).Ok where
 mod:=I.ok.mod
 kind:=S.kind
 glob:=I.ok.glob
 blt:=I.ok.blt
 above:=hC
 inj:=λx y c h1 h2=>I.ok.inj x y c (Vw _ [] (S.clos I.ok) (λ_ z=>by cases z) h1) (Vw _ [] (S.clos I.ok) (λ_ z=>by cases z) h2)
 has:=λx hx=>by
  refine Zar _ _ (.inl ?_);rcases hx with hx|hx
  · exact Zaa (env:=X.env) (k:=.cell) hx (Or.inl (Eq.refl NameKind.cell)) S.nocell
  · exact Zaa (env:=X.env) (k:=.free) hx (Or.inr (Eq.refl NameKind.free)) S.nocell
 cab:=λx c h _=>by cases h
 hd:=I.ok.hd
 frames:=I.ok.frames
 stk := .inl rfl
 exf:=λb hb=>by
  obtain⟨o,e,_⟩:=ho b hb;obtain⟨_,_,_,_,f4,_⟩:=hf b hb;exact⟨Nat.ne_of_lt (Nat.lt_of_lt_of_le (Heap.lt_size e) hC),λx c h=>f4 x c (Vw _ [] (S.clos I.ok) (λ_ z=>by cases z) h)⟩
 bs:=I.bs
 bsz:=Nat.le_trans I.ok.bsz I.sz
 noex:=λb o e hb=>by
  obtain⟨_,_,_,f3,_,_⟩:=hf b hb;rcases f3 with z|z
  · exact I.ok.noex b o e z
  · exact absurd (Nat.lt_of_lt_of_le (Heap.lt_size (I.ok.bs b o e).1) z) (Nat.lt_irrefl _)
 exfs:=λb hb z=>by
  obtain⟨_,f1,f2,_,_,_⟩:=hf b hb;exact(List.mem_cons.mp (I.stkSub b z)).elim f1 f2
 funs:=I.stack
 frf:=I.stkFree
theorem Zbm {C:Addr} {fp:List Addr} {s:Shared} {H:Hp} {m:Str->Option Value} (S:CompSc X scope tn cn js) (I:Inv X pins σ H₂ s₂) (hf:∀b∈fp,Xs X pins H₂ b)
 (u:Un (frs X.stack) fp H₂ H s₂.heap s.heap) :
 ∀(i:Nat)(x:Str)(v:V),(tn++cn)[i]? = some x->(blk tn.length σ js)[i]? = some (some v)->∃z,RelV v z/\Zk3 (compEnvC scope (Y3 X.env.cells scope.names []) C X.env) s.heap m x z:=by
 intro i x v e1 e2;unfold blk at e2
 by_cases hi:i<tn.length
 · rw [List.getElem?_append_left (by simpa using hi),List.getElem?_replicate,if_pos hi]at e2
   cases e2
 · have hi':tn.length<=i:=by omega
   rw [List.getElem?_append_right hi']at e1;rw [List.getElem?_append_right (by simpa using hi'),List.length_replicate]at e2;obtain⟨j,hj,hN,hk,hm⟩:=S.cap _ _ e1;unfold XG at e2;rw [List.getElem?_map,hj]at e2;have e3:(σ[j]?).getD none=some v:=Option.some.inj e2
   have e4:σ[j]? = some (some v):=by
    cases q:σ[j]? with
    |none=>rw [q]at e3;cases e3
    |some z=>rw [q]at e3;exact congrArg some e3
   obtain⟨m0,_,hl⟩:=I.loc
   have hv:Vis X.env.scope x:=by
    rcases hk with hk|hk
    · exact .inr (.inl hk)
    · exact .inr (.inr hk)
   obtain⟨z,rz,l⟩:=hl j x v hN e4 hv;refine⟨z,rz,?_⟩
   obtain⟨c,hc,ob,ho,hd⟩:∃c,X.env.cells.lookup x=some c/\s₂.heap.IsCell c (some z):=by
    rcases l with⟨k,_⟩|⟨_,c,hc,q⟩
    · rcases hk with hk|hk
      · rw [hk]at k;cases k
      · rw [hk]at k;cases k
    · exact⟨c,hc,q⟩
   obtain⟨c',hc'⟩:=Zar (cells:=X.env.cells) (x:=x) scope.names [] (.inl (PySem.mem_of_lookup hm))
   have ec:c'=c:=by
    have:=Vw _ [] (S.clos I.ok) (λ_ z=>by cases z) hc';rw [hc]at this;exact(Option.some.inj this).symm
   subst ec;have nf:c'∉fp:=λhb=>(hf c' hb).2.2.2.2.1 x c' hc rfl
   obtain⟨sl,q⟩:=u.any ho (I.freeC x c' hc) nf;exact .inr ⟨Zan hm,c',hc',⟨_,q,hd⟩⟩
theorem ZdL(S:CompSc X scope tn cn js):(blk tn.length σ js).length=(tn++cn).length:=by
 unfold blk XG;rw [List.length_append,List.length_append,List.length_replicate,List.length_map,S.len]
theorem Zc7 {C:Addr} {fp:List Addr} {xe:Value->Shared->Prop} {s:Shared} {H:Hp} {σ':St} {pins':List (Addr×Obj)} (S:CompSc X scope tn cn js) (I:Inv X pins σ H₂ s₂) (hf:∀b∈fp,Xs X pins H₂ b)
 (I':Inv (UP X scope (tn++cn) C s₂ H₂ fp xe) pins' σ' H s):Inv (UP X scope (tn++cn) C s₂ H₂ fp xe) pins' (blk tn.length σ js) H s:=by
 obtain⟨m,hn,_⟩:=id I'.loc;exact⟨I'.ok,I'.os,I'.bare,I'.base,⟨m,hn,λi x v e1 e2 _=>Zbm S I hf I'.base i x v e1 e2⟩,I'.cell,I'.free,I'.freeC,I'.pin,I'.hok,ZdL S⟩
theorem Zc8 {C D:Addr} {fp:List Addr} {xe:Value->Shared->Prop} {h:Heap} {tk:Nat} {ob:Obj} {m:Str->Option Value} (S:CompSc X scope tn cn js) (I:Inv X pins σ H₂ s₂) (hC:s₂.heap.objs.size<=C) (hD:s₂.heap.objs.size<=D) (hDC:D≠C)
 (hf:∀b∈fp,Xs X pins H₂ b) (ho:∀b∈fp,∃o,s₂.heap.get? b=some o/\∀v,o.data ≠ .cell v) (k:∀b o,s₂.heap.get? b=some o->h.get? b=some o) (hn:h.Ns C m) (hob:h.get? D=some ob) (hcell:∀v,ob.data ≠ .cell v) :
 Inv (UP X scope (tn++cn) C s₂ H₂ fp xe) [(D,ob)] (blk tn.length σ js) H₂ { s₂ with heap:=h,toks:=tk }:=by
 have ok:=Zhe (xe:=xe) S I hC hf ho;have u:Un (frs X.stack) fp H₂ H₂ s₂.heap h:=Un.kept k;refine⟨ok,rfl,I.bare,u,⟨m,hn,λi x v e1 e2 _=>Zbm (s:={ s₂ with heap:=h,toks:=tk }) S I hf u i x v e1 e2⟩,λx c e => ?_,I.hok.fresh hC,λx c e => ?_,λp hp => ?_,I.hok.kept k,ZdL S⟩
 · obtain⟨v,o,q,d⟩:=I.cell x c (Vw _ [] (S.clos I.ok) (λ_ z=>by cases z) e)
   exact⟨v,o,k c o q,d⟩
 · exact I.freeC x c (Vw _ [] (S.clos I.ok) (λ_ z=>by cases z) e)
 · have e : p = (D, ob) := by
    have:p∈([]:List (Addr×Obj))++[(D,ob)]:=hp;simpa using this
   subst e;refine⟨hob,I.hok.fresh hD,hDC,λz => ?_,hcell⟩;have z:D∈frs X.stack:=z;rcases List.mem_cons.mp (I.stkSub D z)with e|e
   · exact absurd (Nat.lt_of_lt_of_le I.lt (by rw [<-e];exact hD)) (Nat.lt_irrefl _)
   · exact I.nofs hD e
theorem Zcs {C D:Addr} {fp:List Addr} {xe:Value->Shared->Prop} {s:Shared} {H:Hp} {σ':St} {ys:List V} {its:List Value} {n:Nat} {h':Heap} (S:CompSc X scope tn cn js) (I:Inv X pins σ H₂ s₂) (hC:s₂.heap.objs.size<=C) (hD:s₂.heap.objs.size<=D) (hDC:D≠C)
 (hf:∀b∈fp,Xs X pins H₂ b) (I':Inv (UP X scope (tn++cn) C s₂ H₂ fp xe) [(D,{ cls := .type "list",data := .seq its.toArray n })] σ' H s) (hv:Vals ys its) (hz:ys.length<=sizeLine) (hs:Heap.SameBut C s.heap h') :
 Inv X pins σ (upd H D (.lst ys)) { s with heap:=h' }:=by
 have pd:=I'.pin (D,{ cls := .type "list",data := .seq its.toArray n }) (List.mem_append_right _ List.mem_cons_self);have pd1:s.heap.get? D=some { cls := .type "list",data := .seq its.toArray n }:=pd.1;have pd2:H D=none:=pd.2.1;have hD':h'.get? D=some { cls := .type "list",data := .seq its.toArray n }:=(hs.2 D hDC).trans pd1;have hCf:H C=none:=I'.free;have old:∀b o,s₂.heap.get? b=some o->b≠C/\b≠D:=λb o e=>⟨Nat.ne_of_lt (Nat.lt_of_lt_of_le (Heap.lt_size e) hC),Nat.ne_of_lt (Nat.lt_of_lt_of_le (Heap.lt_size e) hD)⟩
 have u:=I'.base;have u:Un (frs X.stack) fp H₂ H s₂.heap s.heap:=u;refine I.call' (s':={ s with heap:=h' }) (ch:=fp) (H':=upd H D (.lst ys)) I'.os ⟨λb o e n hb hx => ?_,λb o e n hb hx => ?_,λb o e n hx => ?_,λb o e hx => ?_,λb xs e => ?_,λb o xs e => ?_,λb ps e => ?_⟩ (λb o e => ?_) I'.bare (λb hb => ?_)
 · exact(hs.2 b (old b o e).1).trans (u.keep b o e n hb hx)
 · obtain⟨sl,q⟩:=u.slot b o e n hb hx
   exact⟨sl,(hs.2 b (old b o e).1).trans q⟩
 · rw [ZI (old b o e).2]
   exact u.free b o e n hx
 · obtain⟨o',q⟩:=u.there b o e hx
   exact⟨o',(hs.2 b (old b o e).1).trans q⟩
 · have q:=u.tups b xs e
   rw [ZI (YZ q pd2)];exact q
 · have q:=u.frzs b o xs e
   rw [ZI (YZ q pd2)];exact q
 · obtain⟨more,q⟩:=u.tbls b ps e
   exact⟨more,by rw [ZI (YZ q pd2)];exact q⟩
 · by_cases hb:b=D
   · subst hb
     rw [ZN]at e;cases e;exact⟨hz,its,n,hv,hD'⟩
   · rw [ZI hb]at e
     refine(I'.hok b o e).stay (λc v hc q=>(hs.2 c ?_).trans q) (λc q=>by rw [ZI (YZ q pd2)];exact q) λc xs q=>by rw [ZI (YZ q pd2)];exact q
     rintro rfl
     rcases hc with rfl|hc
     · rw [hCf]at e;cases e
     · rw [hCf]at hc;cases hc
 · obtain⟨f0,f1,f2,f3,f4,f5⟩:=hf b hb
   exact⟨f3,f1,f4,f5⟩
end
def PTs(X:Cx)(ifs:List Expr)(t:TT):Prop:=
 ∀(pins:List (Addr×Obj))(s:Shared)(σ:St)(H:Hp)(Q:Bool->Hp->Prop),Inv X pins σ H s->t σ H Q ->
  wpAny (model X.prog X.w) X.A (forIn ifs true λc r=>if r=true then do let ok <-isTrue c X.env (eval c X.env);pure (ForInStep.yield ok)else pure (ForInStep.yield r)) (TP X pins σ Q) X.xe s
def tYes:TT:=λ_ H Q=>Q true H
theorem YQ{X:Cx}:PTs X [] tYes:=λ_ _ _ H _ I h=>wpAny_tests_nil ⟨H,I,h⟩
theorem Qj{X:Cx}{c:Expr}{t:TT}(h:PT X c t):PTs X [c] t:=λpins s σ H Q I q=>wpAny_tests_one (h pins s σ H Q I q)
def Qk(wi:TI)(g:TG)(tt:TT)(te:TE)(n:Nat)(js:List Nat):TE:=λσ H Q=>wi σ H λJ H1=>
 ∃W:Nat->Nat->List V->Hp->Prop,(∃m,W 0 m [] H1)/\∀i m ys H,W i m ys H ->
  (J.stop i H/\∀p,H p=none->Q (.ref p) (upd H p (.lst ys))) \/
  (J.go i H/\∀x H',J.yld i H x H'->g x (blk n σ js) H' λσ2 H2=>tt σ2 H2 λb H3=>
    if b=true then te σ2 H3 λy H4=>ys.length<sizeLine/\∃m',m'<m/\W (i+1) m' (ys++[y]) H4 else ∃m',m'<m/\W (i+1) m' ys H3)
section
variable{X:Cx}{tg iter elt:Expr}{ifs:List Expr}{scope:Scope}{pos:Pos}{wi:TI}{g:TG}{tt:TT}{te:TE}{tn cn:List Str}{js:List Nat}
abbrev XH(X:Cx)(scope:Scope)(N':List Str)(C:Addr)(s₂:Shared)(H₂:Hp)(fp:List Addr):Cx:=UP X scope N' C s₂ H₂ fp λ_ _=>False
theorem UQ{α:Type}{M:Model}{A:Around}{m:Sem α}{Q:α->Shared->Prop}{E:Value->Shared->Prop}{s:Shared}(h:wpAny M A m Q (λ_ _=>False) s):wpAny M A m Q E s:=wpAny_mono h (λ_ _ q=>q) λ_ _ z=>z.elim
theorem ZaT {pins:List (Addr×Obj)} {σ:St} {H₂:Hp} {s₂:Shared} {it:Addr} {fp:List Addr} {tnx:Nat->Heap->Prop} {J:It} {E:Value->Shared->Prop} {RR:Value->Addr->Result->Shared->Prop} {W:Nat->Nat->List V->Hp->Prop} {m0:Nat}
 (hc:X.calm=true) (S:CompSc X scope tn cn js)
 (hg:∀C s₂ H₂ fp,PG (XH X scope (tn++cn) C s₂ H₂ fp) tg g) (ht:∀C s₂ H₂ fp,PTs (XH X scope (tn++cn) C s₂ H₂ fp) ifs tt) (he:∀C s₂ H₂ fp,PE (XH X scope (tn++cn) C s₂ H₂ fp) elt te)
 (I2:Inv X pins σ H₂ s₂) (T:Turn X.prog X.w X.K tg J fp it tnx) (st2:tnx 0 s₂.heap) (f2:∀b∈fp,Xs X pins H₂ b) (w0:W 0 m0 [] H₂)
 (turn:∀i m ys H,W i m ys H->(J.stop i H/\∀C D s its n σ',s₂.heap.objs.size<=C->s₂.heap.objs.size<=D->D≠C->Vals ys its->ys.length<=sizeLine ->
   Inv (XH X scope (tn++cn) C s₂ H₂ fp) [(D,{ cls := .type "list",data := .seq its.toArray n })] σ' H s->RR (.ref D) C (.ok .next) s) \/
   (J.go i H/\∀x H',J.yld i H x H'->g x (blk tn.length σ js) H' λσ2 H2=>tt σ2 H2 λb H3=>
     if b=true then te σ2 H3 λy H4=>ys.length<sizeLine/\∃m',m'<m/\W (i+1) m' (ys++[y]) H4 else ∃m',m'<m/\W (i+1) m' ys H3)) :
 wpAny (model X.prog X.w) X.A (newList []) (λacc s₃=>wpAny (model X.prog X.w) X.A (newFunctionEnv scope X.env.globals (Y3 X.env.cells scope.names []) [] X.env.qual none .none (some X.env)) (λcenv s₄=>
  codeAny (model X.prog X.w) X.A (.compStart (.ListComp elt [⟨tg,iter,ifs,0⟩] scope pos) 0 (.ref it) acc { cenv with scope:=relabel scope X.env }) (RR acc cenv.locals) s₄) E s₃) E s₂:=by
 refine wpAny_newObj_type (wpAny_newFunctionEnv S.nocell (by intro y hy;simp at hy) (λh₁ hns₁ hsb₁ => ?_) S.kind);dsimp only at hns₁ hsb₁ ⊢;generalize hH2:s₂.heap.push { cls := .type "list",dict:=none,data := .seq ([]:List Value).toArray }=HH at hns₁ hsb₁ ⊢;have hCs:HH.objs.size=s₂.heap.objs.size+1:=by rw [<-hH2,Heap.size_push]
 have hDC:s₂.heap.objs.size≠HH.objs.size:=by rw [hCs];exact Nat.ne_of_lt (Nat.lt_succ_self _)
 have hC:s₂.heap.objs.size<=HH.objs.size:=by rw [hCs];exact Nat.le_succ _
 have hD:s₂.heap.objs.size<=s₂.heap.objs.size:=Nat.le_refl _;have old:∀b o,s₂.heap.get? b=some o->h₁.get? b=some o:=λb o e=>hsb₁.extBut b o (by rw [hCs];exact Nat.ne_of_lt (Nat.lt_succ_of_lt (Heap.lt_size e))) (Heap.get?_push_of_some _ (hH2▸Heap.get?_push_of_some _ e))
 have hacc:h₁.get? s₂.heap.objs.size=some { cls := .type "list",dict:=none,data := .seq ([]:List Value).toArray }:=hsb₁.extBut _ _ hDC (Heap.get?_push_of_some _ (hH2▸Heap.get?_push_size _ rfl));have hob:=T.obj _ _ st2
 have I3:Inv (XH X scope (tn++cn) HH.objs.size s₂ H₂ fp) [(s₂.heap.objs.size,{ cls := .type "list",dict:=none,data := .seq ([]:List Value).toArray })] (blk tn.length σ js) H₂ { s₂ with heap:=h₁,toks:=s₂.toks+([]:List (Str×Value)).length }:=
  Zc8 S I2 hC hD hDC f2 hob old hns₁ hacc (λv z=>by cases z)
 have st3:tnx 0 h₁:=T.keep _ _ _ st2 λb hb o e=>old b o e
 generalize hX':XH X scope (tn++cn) HH.objs.size s₂ H₂ fp=X' at I3;generalize hs3:({ s₂ with heap:=h₁,toks:=s₂.toks+([]:List (Str×Value)).length }:Shared)=s3 at I3 ⊢;have st3':tnx 0 s3.heap:=by rw [<-hs3];exact st3
 have stat:∀{pins':List (Addr×Obj)}{H':Hp},(∀b∈fp,H' b=none)->(∀p∈pins',p.1=s₂.heap.objs.size)->∀b∈fp,Xs X' pins' H' b:=λ{pins' H'} hn hp b hb=>by
  subst hX';obtain⟨o,e,_⟩:=hob b hb;obtain⟨f0,f1,f2',f3,f4,f5⟩:=f2 b hb;refine⟨hn b hb,Nat.ne_of_lt (Nat.lt_of_lt_of_le (Heap.lt_size e) hC),λz=>(List.mem_cons.mp (I2.stkSub b z)).elim f1 f2',.inl hb,λx c h=>f4 x c (Vw _ [] (S.clos I2.ok) (λ_ z=>by cases z) h),λp hpp => ?_⟩
  have:p∈pins':=by
   have q:p∈([]:List (Addr×Obj))++pins':=hpp;simpa using q
  rw [hp p this];exact Nat.ne_of_gt (Heap.lt_size e)
 have loop:codeAny (model X.prog X.w) X.A (.compLoop (.ListComp elt [⟨tg,iter,ifs,0⟩] scope pos) 0 (.ref it) (.ref s₂.heap.objs.size) X'.env) (RR (.ref s₂.heap.objs.size) HH.objs.size) s3:=by
  refine ZbL (λk s'=>∃i ys its n H',Inv X' [(s₂.heap.objs.size,{ cls := .type "list",data := .seq its n })] (blk tn.length σ js) H' s'/\Vals ys its.toList/\ys.length<=sizeLine/\tnx i s'.heap/\(∀b∈fp,H' b=none)/\W i k ys H') ?_ m0
   ⟨0,[],#[],0,H₂,I3,.nil,Nat.zero_le _,st3',λb hb=>(f2 b hb).1,w0⟩
  rintro k s4 ⟨i,ys,its,n,H4,I4,hv4,hz4,st4,fr4,w4⟩
  have eP:X'.prog=X.prog:=by rw [<-hX'];rfl
  have eW:X'.w=X.w:=by rw [<-hX'];rfl
  have eK:X'.K=X.K:=by rw [<-hX'];rfl
  have eA:X'.A=X.A:=by rw [<-hX'];rfl
  have eC:X'.calm=true:=by rw [<-hX'];exact hc
  have eE:X'.xe=λ_ _=>False:=by rw [<-hX'];rfl
  rcases turn i k ys H4 w4 with⟨stop,qn⟩|⟨go,step⟩
  · have z:=T.done X' eP eW eK eC i _ s4 (blk tn.length σ js) H4 (λ_ _=>False) I4 (stat fr4 (λp hp=>by simp at hp;rw [hp])) st4 stop
    rw [eA]at z;refine UQ (thn z λr s5 ⟨hr,I5⟩ => ?_);subst hr;subst hX';exact qn _ _ s5 its.toList n _ hC hD hDC hv4 hz4 (by simpa using I5)
  · have z:=T.item X' eP eW eK eC i _ s4 (blk tn.length σ js) H4 (λ_ _=>False) I4 (stat fr4 (λp hp=>by simp at hp;rw [hp])) st4 go
    rw [eA]at z;refine UQ (thn z λr s5 ⟨u,hr,h5⟩ => ?_);subst hr;refine UQ (thn h5 λ_ s6 ⟨x,H6,I6,r6,y6,st6,fr6⟩ => ?_);have I6':=I6.pinned (stat fr6 (λp hp=>by simp at hp;rw [hp])) (T.obj _ _ st6);have hg':PG X' tg g:=by rw [<-hX'];exact hg _ _ _ _
    have ht':PTs X' ifs tt:=by rw [<-hX'];exact ht _ _ _ _
    have he':PE X' elt te:=by rw [<-hX'];exact he _ _ _ _
    have z7:=hg' _ s6 _ H6 x u _ I6' r6 (step x H6 y6);rw [eP,eW,eA,eE]at z7;refine UQ (thn z7 λ_ s7 ⟨σ7,H7,I7,q7⟩ => ?_);have z8:=ht' _ s7 σ7 H7 _ I7 q7;rw [eP,eW,eA,eE]at z8;refine UQ (thn z8 λok s8 ⟨H8,I8,q8⟩ => ?_)
    have key:∀{σ9:St}{H9:Hp}{s9:Shared}{its':Array Value}{n':Nat},Inv X' ([(s₂.heap.objs.size,{ cls := .type "list",data := .seq its' n' })]++Vb fp s6.heap) σ9 H9 s9 ->
     Inv X' [(s₂.heap.objs.size,{ cls := .type "list",data := .seq its' n' })] (blk tn.length σ js) H9 s9/\tnx (i+1) s9.heap/\∀b∈fp,H9 b=none:=λ{σ9 H9 s9 its' n'} I9=>by
     refine⟨?_,T.keep _ _ _ st6 λb hb o e=>(I9.pin (b,o) (List.mem_append_right _ (List.mem_append_right _ (QK hb e)))).1,λb hb => ?_⟩
     · have I9':=I9.unpinned
       subst hX';exact Zc7 S I2 f2 I9'
     · obtain⟨o,e,d⟩:=T.obj _ _ st6 b hb
       exact(I9.pin (b,o) (List.mem_append_right _ (List.mem_append_right _ (QK hb e)))).2.1
    cases ok with
    |false=>
     rw [if_neg Bool.false_ne_true]at q8 ⊢;obtain⟨m',hm,w8⟩:=q8;obtain⟨I9,st9,fr9⟩:=key I8;exact⟨m',hm,i+1,ys,its,n,H8,I9,hv4,hz4,st9,fr9,w8⟩
    |true=>
     rw [if_pos rfl]at q8 ⊢;have z9:=he' _ s8 σ7 H8 _ I8 q8;rw [eP,eW,eA,eE]at z9;refine UQ (thn z9 λv s9 ⟨y,H9,I9,r9,hl9,m',hm,w9⟩ => ?_);have pd:=I9.pin (s₂.heap.objs.size,{ cls := .type "list",data := .seq its n }) (List.mem_append_right _ (List.mem_append_left _ List.mem_cons_self));have hpl:s9.heap.PlainList s₂.heap.objs.size its:=⟨n,pd.1⟩
     have hlen:its.size=ys.length:=by rw [hv4.length];simp
     refine wpAny_list_append_plain (hsz:=by omega) hpl λh10 hl10 hs10 => ?_
     obtain⟨n10,e10⟩:=hl10;have I10:Inv X' (Vb fp s6.heap) σ7 H9 s9:=I9.pins_of λp hp=>I9.pin p (List.mem_append_right _ (List.mem_append_right _ hp))
     have nD:∀b∈fp,b≠s₂.heap.objs.size:=λb hb=>by
      obtain⟨o,e,_⟩:=hob b hb;exact Nat.ne_of_lt (Heap.lt_size e)
     have I11:Inv X' (Vb fp s6.heap) σ7 H9 { s9 with heap:=h10 }:=by
      refine I10.turned (t':=s9.toks) (it:=s₂.heap.objs.size) (λb o hb e=>(hs10.2 b hb).trans e) pd.2.1 pd.2.2.1 ?_ ?_ ?_
      · subst hX';exact .inr (Nat.le_refl _)
      · subst hX'
        intro x c h;obtain⟨v',o',q,_⟩:=I2.cell x c (Vw _ [] (S.clos I2.ok) (λ_ z=>by cases z) h);exact Nat.ne_of_lt (Heap.lt_size q)
      · intro p hp
        have hp':p∈Vb fp s6.heap:=by
         subst hX';have q:p∈([]:List (Addr×Obj))++Vb fp s6.heap:=hp;simpa using q
        exact nD _ (Zbf hp').1
     have I12:Inv X' ([(s₂.heap.objs.size,{ cls := .type "list",data := .seq (its.push v) n10 })]++Vb fp s6.heap) σ7 H9 { s9 with heap:=h10 }:=I11.pins_of λp hp=>by
      rcases List.mem_append.mp hp with q|q
      · have e:p=(s₂.heap.objs.size,{ cls := .type "list",data := .seq (its.push v) n10 }):=by simpa using q
        subst e;exact⟨e10,pd.2.1,pd.2.2.1,pd.2.2.2.1,λv z=>by cases z⟩
      · exact I11.pin p (List.mem_append_right _ q)
     obtain⟨J1,J2,J3⟩:=key I12;refine⟨m',hm,i+1,ys++[y],its.push v,n10,H9,J1,?_,?_,J2,J3,w9⟩
     · have:(its.push v).toList=its.toList++[v]:=by simp
       rw [this];exact hv4.append (.cons r9 .nil)
     · rw [List.length_append,List.length_singleton]
       omega
 have eEnv:({ newEnv scope HH.objs.size X.env.globals (Y3 X.env.cells scope.names []) X.env.qual none .none (some X.env) builtinsNs with scope:=relabel scope X.env }:Env)=X'.env:=by rw [<-hX'];rfl
 have loop2:=loop;rw [<-eEnv]at loop loop2;exact codeAny_compStart_list loop (T.self X.A 0 s3 _ _ st3' loop2)
theorem Xh (hc:X.calm=true) (S:CompSc X scope tn cn js) (hi:PI X tg iter wi)
 (hg:∀C s₂ H₂ fp,PG (XH X scope (tn++cn) C s₂ H₂ fp) tg g) (ht:∀C s₂ H₂ fp,PTs (XH X scope (tn++cn) C s₂ H₂ fp) ifs tt) (he:∀C s₂ H₂ fp,PE (XH X scope (tn++cn) C s₂ H₂ fp) elt te)
 (hs:∀x,foldedSetIterable iter X.env x=pure x:=by intro _;rfl) :
 PE X (.ListComp elt [⟨tg,iter,ifs,0⟩] scope pos) (Qk wi g tt te tn.length js):=by
 intro pins s σ H Q I h;rw [eval_ListComp];refine wpAny_comprehension_free (use:=none) (cl:=Y3 X.env.cells scope.names []) rfl hs (Zai (S.clos I.ok)) S.kind S.names (thn (hi pins s σ H _ I h) λv s1 h1=>thn h1 λitv s2 h2 => ?_);obtain⟨it,fp,tnx,J,H2,e,I2,T,st2,f2,W,⟨m0,w0⟩,turn⟩:=h2;subst e;refine ZaT (RR:=λacc C=>compPost (model X.prog X.w) X.A X.xe none (EP X pins σ Q) acc C) (W:=W) (m0:=m0) hc S hg ht he I2 T st2 f2 w0 λi m ys H w => ?_
 rcases turn i m ys H w with⟨stop,qn⟩|r
 · refine .inl ⟨stop,λC D s its n σ' hC hD hDC hv hz I' => ?_⟩
   obtain⟨m',hn,_⟩:=id I'.loc;refine⟨m',hn,λh' hs' => ?_⟩;have pd:=I'.pin (D,{ cls := .type "list",data := .seq its.toArray n }) (List.mem_append_right _ List.mem_cons_self);exact⟨.ref D,_,Zcs S I2 hC hD hDC f2 I' hv hz hs',rfl,qn D pd.2.1⟩
 · exact .inr r
end
end L2
namespace L2
open PySem PySem.Spec PyProof.Rows
abbrev S(cs:List Nat):V := .str (tx cs)
theorem ZjZ{a b:List Nat}:S a=S b ↔ a=b:=by
 constructor
 · intro h
   exact tx_inj.mp (V.str.inj h)
 · rintro rfl;rfl
section
variable{X:Cx}{pos:Pos}
theorem Zdo{x:Str}{j:Nat}(cs:List Nat)(h:x=tx cs):PE X (.Constant (.str x) j pos) (tC (S cs)):=by
 subst h;exact ZiT
def Its(cs:List Nat):It:=⟨λi _=>i<cs.length,λi H v H'=>H'=H/\∃c,cs[i]? = some c/\v=S [c],λi _=>cs.length<=i⟩
theorem QP(x:Str):strIterType x = "str_ascii_iterator" \/ strIterType x = "str_iterator" := by
 unfold strIterType
 split
 · exact .inl rfl
 · exact .inr rfl
theorem Zfd{P:Program}{w:World}{K:PySem.W.Frag}{tg:Expr}(it:Addr)(cs:List Nat)(t:Tok):Turn P w K tg (Its cs) [it] it (λi h=>h.IsStrIter it (strIterType (tx cs)) (tx cs) t i) where
 mem:=by simp
 obj:=λi h st b hb=>by
  have e:b=it:=by simpa using hb
  subst e;obtain⟨o,e,c,d⟩:=st;exact⟨o,e,λv z=>by rw [d]at z;cases z⟩
 keep:=λi h h' st k=>by
  obtain⟨o,e,r⟩:=st;exact⟨o,k it (by simp) o e,r⟩
 item:=by
  intro X hP hw hK hc i pins s σ H E I hf st hg;subst hP hw hK;obtain⟨f0,f1,f2,f3,f4,f5⟩:=hf it (by simp);have hg:i<cs.length:=hg;have hx:(tx cs).cps[i]? = some cs[i]:=by simp [tx,hg]
  have fin:∀(h':Heap),h'.IsStrIter it (strIterType (tx cs)) (tx cs) t (i+1)->Heap.SameBut it s.heap h' ->
   ∃u,some (Value.str ⟨#[cs[i]]⟩ s.toks)=some u/\wpAny (model X.prog X.w) X.A (letOwnedTupleGo tg (.ref it) u) (λ_ s2=>∃x H',Inv X pins σ H' s2/\RelV x u/\(Its cs).yld i H x H'/\s2.heap.IsStrIter it (strIterType (tx cs)) (tx cs) t (i+1)/\∀b∈[it],H' b=none) E { s with heap:=h',toks:=s.toks+1 }:=λh' st' sb=>by
   have I1:Inv X pins σ H { s with heap:=h',toks:=s.toks+1 }:=I.turned (λb o hb e=>(sb.2 b hb).trans e) f0 f1 f3 f4 f5;obtain⟨o,e,hc',d⟩:=id st';refine⟨_,rfl,Qe (s:={ s with heap:=h',toks:=s.toks+1 }) e hc' d ?_ ⟨S [cs[i]],H,I1,⟨s.toks,rfl⟩,⟨rfl,cs[i],by simp [hg],rfl⟩,st',λb hb=>(hf b hb).1⟩⟩;rcases QP (tx cs)with z|z<;>rw [z]<;>decide
  rcases QP (tx cs)with z|z
  · rw [z]at st
    refine wpAny_pyNext_ascii_item st hx λh' st' sb=>fin h' (by rw [z];exact st') sb
  · rw [z]at st
    refine wpAny_pyNext_wide_item st hx λh' st' sb=>fin h' (by rw [z];exact st') sb
 done:=by
  intro X hP hw hK hc i pins s σ H E I hf st hg;subst hP hw hK;obtain⟨f0,f1,f2,f3,f4,f5⟩:=hf it (by simp);have hg:cs.length<=i:=hg;have hx:(tx cs).cps[i]? = none:=by simp [tx];omega
  rcases QP (tx cs)with z|z
  · rw [z]at st
    exact wpAny_pyNext_ascii_end (I.ok.hd hc) st hx λh' eb=>⟨rfl,I.turned (t':=s.toks) (λb o hb e=>eb b o hb e) f0 f1 f3 f4 f5⟩
  · rw [z]at st
    exact wpAny_pyNext_wide_end (I.ok.hd hc) st hx λh' eb=>⟨rfl,I.turned (t':=s.toks) (λb o hb e=>eb b o hb e) f0 f1 f3 f4 f5⟩
 self:=λ_ i _ _ _ st h=>by
  rcases QP (tx cs)with z|z
  · rw [z]at st
    exact wpAny_pyIter_striter_ascii st h
  · rw [z]at st
    exact wpAny_pyIter_striter_wide st h
variable{tg:Expr}
def Vx(K:PySem.W.Frag)(tl:TE):TI:=λσ H R=>tl σ H λx H1=>(∃a xs,x = .ref a/\SqL K H1 a xs/\R (Itl K a) H1)\/(∃a xs,x = .ref a/\SqT K H1 a xs/\R (Itt K a) H1)\/∃cs,x=S cs/\R (Its cs) H1
theorem Zi5{l:Expr}{tl:TE}(hl:PE X l tl):PI X tg l (Vx X.K tl):=by
 intro pins s σ H R I h;refine thn (hl pins s σ H _ I h) λv s1 ⟨x,H1,I1,r1,q1⟩ => ?_
 rcases q1 with⟨a,xs,e,hq,q⟩|⟨a,xs,e,hq,q⟩|⟨cs,e,q⟩
 · subst e
   cases r1;obtain⟨its,rv,p,hz⟩:=I1.list hq;refine wpAny_pyIter_list p.isList ?_;refine⟨s1.heap.objs.size,[s1.heap.objs.size],_,_,H1,rfl,I1.kept (t':=s1.toks) λb o e=>Heap.get?_push_of_some _ e,Zek a _,⟨_,Heap.get?_push_size _ rfl,rfl,rfl⟩,λb hb => ?_,q⟩;have e:b=s1.heap.objs.size:=by simpa using hb
   subst e;exact I1.fpOk (Nat.le_refl _) (I1.hok.fresh (Nat.le_refl _))
 · have hpi:=ZiX (X:=X) (tg:=tg) (l:=l) (tl:=λ_ H Q=>Q (.ref a) H)
   subst e;cases r1;obtain⟨its,rv,p,hz⟩:=I1.tuple hq;refine wpAny_pyIter_tuple (show s1.heap.IsTuple a its.toArray from p) ?_;refine⟨s1.heap.objs.size,[s1.heap.objs.size],_,_,H1,rfl,I1.kept (t':=s1.toks) λb o e=>Heap.get?_push_of_some _ e,ZaR a _,⟨_,Heap.get?_push_size _ rfl,rfl,rfl⟩,λb hb => ?_,q⟩;have e:b=s1.heap.objs.size:=by simpa using hb
   subst e;exact I1.fpOk (Nat.le_refl _) (I1.hok.fresh (Nat.le_refl _))
 · subst e
   obtain⟨t,rfl⟩:=r1;refine wpAny_pyIter_strU ?_;refine⟨s1.heap.objs.size,[s1.heap.objs.size],_,_,H1,rfl,I1.kept (t':=s1.toks) λb o e=>Heap.get?_push_of_some _ e,Zfd _ cs t,⟨_,Heap.get?_push_size _ rfl,rfl,rfl⟩,λb hb => ?_,q⟩;have e:b=s1.heap.objs.size:=by simpa using hb
   subst e;exact I1.fpOk (Nat.le_refl _) (I1.hok.fresh (Nat.le_refl _))
def rAddS:R2:=λx y H Q=>∃a b,x=S a/\y=S b/\a.length+b.length<=sizeLine/\Q (S (a++b)) H
theorem op_addS:OpR X (binaryOp .Add) rAddS:=by
 intro pins s σ H x y v u Q I rx ry h;obtain⟨a,b,rfl,rfl,hz,q⟩:=h;refine ZcX pins s σ H _ _ v u Q I rx ry ⟨tx a,tx b,rfl,rfl,by rw [Ve,Ve];exact hz,?_⟩;rw [Zi4];exact q
def Zj0:R2:=λx y H Q=>rI0 (λi j => .int (i+j)) x y H Q\/rAddS x y H Q\/ZlE x y H Q
def ZjL(neg:Bool):R2:=λx y H Q=>∃c b,x=S [c]/\y=S b/\Q (.bl (neg != decide (c∈b))) H
theorem op_inS:OpR X (compareOp .In) (ZjL false):=by
 intro pins s σ H x y v u Q I rx ry h;obtain⟨c,b,rfl,rfl,q⟩:=h;refine Zel pins s σ H _ _ v u Q I rx ry ⟨tx [c],tx b,rfl,rfl,?_⟩;have e:=StrLaws.found_one (tx b) c;rw [Zdn]at e;rw [show tx [c]=(⟨#[c]⟩:Str)from rfl,e];simpa using q
theorem op_notInS:OpR X (compareOp .NotIn) (ZjL true):=by
 intro pins s σ H x y v u Q I rx ry h;obtain⟨c,b,rfl,rfl,q⟩:=h;refine ZbF pins s σ H _ _ v u Q I rx ry ⟨tx [c],tx b,rfl,rfl,?_⟩;have e:=StrLaws.found_one (tx b) c;rw [Zdn]at e;rw [show tx [c]=(⟨#[c]⟩:Str)from rfl,e];simpa using q
def UR(K:PySem.W.Frag)(neg:Bool):R2:=λx y H Q=>ZjL neg x y H Q\/rIn K neg x y H Q
theorem Zi6:OpR X (compareOp .In) (UR X.K false):=op_inS.or Zeq
theorem Zeu:OpR X (compareOp .NotIn) (UR X.K true):=op_notInS.or ZbH
def rIxSt:R2:=λx y H Q=>∃a i c,x=S a/\y = .int i/\a.length<=sizeLine/\atI a i=some c/\Q (S [c]) H
theorem ZlG:IxR X rIxSt:=by
 intro value slice pins s σ H x y v u Q I rx ry h hs;obtain⟨a,i,c,rfl,rfl,hz,he,q⟩:=h;exact ix_str value slice pins s σ H _ _ v u Q I rx ry ⟨tx a,i,c,rfl,rfl,by rw [Ve];exact hz,by rw [Zdn];exact he,q⟩ hs
def Uw(K:PySem.W.Frag):R2:=λx y H Q=>Zle K x y H Q\/Zlf K x y H Q\/rIxSt x y H Q
theorem ZlH:IxR X (Uw X.K):=ix_list.or (ix_tup.or ZlG)
def rSlS:V->Option Int->Option Int->Hp->VK->Prop:=λx lo hi H Q=>∃a,x=S a/\a.length<=sizeLine/\Q (S (cutL a lo hi)) H
theorem sl_S:SlR X rSlS:=by
 intro pins s σ H x v vl vu lo hi sl Q I rx hs pl pu h;obtain⟨a,rfl,hz,q⟩:=h;obtain⟨t,rfl⟩:=rx;refine⟨"str",_,F.slot_str_getitem.lookup,typeIs_str _ _ _,?_⟩;have fin:∀t' k,EP X pins σ Q (.str (Txt.slice (tx a) lo hi) t') { s with toks:=k }:=λt' k=>⟨S (cutL a lo hi),H,I.tok _,⟨t',by rw [Zfc]⟩,q⟩
 have hle:(Txt.slice (tx a) lo hi).length<=sizeLine:=Nat.le_trans (Txt.slice_le _ _ _) (by rw [Ve];exact hz);cases pl with
 |none=>
  cases pu with
  |none=>exact wpAny_getItem_str_slice (l:=none) (u:=none) (st:=none) hs rfl (post_val_or_str ⟨hle,fin⟩)
  |int j uj=>exact wpAny_getItem_str_slice (l:=none) (u:=some (j,uj)) (st:=none) hs rfl (post_val_or_str ⟨hle,fin⟩)
 |int i ui=>
  cases pu with
  |none=>exact wpAny_getItem_str_slice (l:=some (i,ui)) (u:=none) (st:=none) hs rfl (post_val_or_str ⟨hle,fin⟩)
  |int j uj=>exact wpAny_getItem_str_slice (l:=some (i,ui)) (u:=some (j,uj)) (st:=none) hs rfl (post_val_or_str ⟨hle,fin⟩)
def ZjM(K:PySem.W.Frag):V->Option Int->Option Int->Hp->VK->Prop:=λx lo hi H Q=>rSlS x lo hi H Q\/Zlg K x lo hi H Q\/Zld K x lo hi H Q
theorem ZlI:SlR X (ZjM X.K):=sl_S.or (sl_list.or Zi0)
def ZgL(K:PySem.W.Frag):List V->Hp->VK->Prop:=λxs H Q=>(∃a,xs=[S a]/\a.length<=sizeLine/\Q (.int a.length) H)\/∃p ys,xs=[.ref p]/\(SqL K H p ys\/SqT K H p ys)/\Q (.int ys.length) H
theorem Zev:Z6 X (.builtin "len") (ZgL X.K):=by
 intro pins s σ H xs us Q I rs q;rcases q with⟨a,rfl,hz,q⟩|q
 · exact ZbJ pins s σ H _ us Q I rs ⟨tx a,rfl,by rw [Ve];exact hz,by rw [Ve];exact q⟩
 · exact ZbI pins s σ H xs us Q I rs q
theorem Zhf(bs:List Bool):∀(its:List Value),Vals (bs.map V.bl) its->its=bs.map Value.bool:=by
 induction bs with
 |nil=>intro its r;cases r;rfl
 |cons b bs ih=>
  intro its r;cases r with
  |cons r1 r2=>
   rw [ih _ r2];cases r1;rfl
theorem Zew(bs:List Bool):((List.range bs.length).all λi=>bs.getD i false)=bs.all id:=by
 rw [Bool.eq_iff_iff,List.all_eq_true,List.all_eq_true];constructor
 · intro h b hb
   obtain⟨i,hi⟩:=List.getElem?_of_mem hb;have hl:i<bs.length:=(List.getElem?_eq_some_iff.mp hi).1;have:=h i (List.mem_range.mpr hl);rw [List.getD_eq_getElem?_getD,hi]at this;exact this
 · intro h i hi
   have hl:=List.mem_range.mp hi;have:=h bs[i] (List.getElem_mem hl);rw [List.getD_eq_getElem?_getD,List.getElem?_eq_getElem hl];exact this
def ZgM(K:PySem.W.Frag)(f:List Bool->Bool):List V->Hp->VK->Prop:=λxs H Q=>∃p bs,xs=[.ref p]/\SqL K H p (bs.map V.bl)/\Q (.bl (f bs)) H
theorem Zc9 {pins:List (Addr×Obj)} {σ:St} {H:Hp} {s:Shared} {p:Addr} {bs:List Bool} {Q:Value->Shared->Prop} {E:Value->Shared->Prop} {f:(Nat->Bool)->Bool} (hc:X.calm=true) (I:Inv X pins σ H s) (hq:SqL X.K H p (bs.map V.bl))
 (q:∀h' tk,(∀b o,s.heap.get? b=some o->h'.get? b=some o)->Q (.bool (f λi=>bs.getD i false)) { s with heap:=h',toks:=tk }) :
 wpAny (model X.prog X.w) X.A.in1 (pyIter (.ref p)) (λit s₂=>∃I fp wr n P St tr,it = .ref I/\Walks X.prog X.w X.A.in1 I fp wr n P St/\St 0 s₂.heap/\TruthOf X.prog X.w X.A.in1 P tr /\
  n=bs.length/\tr=(λi=>bs.getD i false)/\∀h' tk,(∀b o,b∉wr->s₂.heap.get? b=some o->h'.get? b=some o)->Q (.bool (f tr)) { s₂ with heap:=h',toks:=tk }) E s:=by
 obtain⟨its,rv,pl,hz⟩:=I.list hq;have e:=Zhf bs its rv;subst e;refine wpAny_pyIter_list pl.isList ?_;have hlt:p<s.heap.objs.size:=pl.lt;have hh:X.A.in1.handled=none:=I.ok.hd hc;refine⟨s.heap.objs.size,_,_,_,_,_,λi=>bs.getD i false,rfl,Walks.list hh _ p (Nat.ne_of_lt hlt) (bs.map Value.bool).toArray,⟨⟨_,Heap.get?_push_size _ rfl,rfl,rfl⟩,(pl.keeps λb o e=>Heap.get?_push_of_some _ e).isList⟩,?_,by simp,rfl,λh' tk k => ?_⟩
 · intro i v s' Q' E' hv hq'
   have:v=Value.bool (bs.getD i false):=by
    have hv':(bs.map Value.bool)[i]? = some v:=by simpa using hv
    rw [List.getElem?_map]at hv';rw [List.getD_eq_getElem?_getD];cases e:bs[i]? with
    |none=>rw [e]at hv';cases hv'
    |some b=>rw [e]at hv';exact(Option.some.inj hv').symm
   subst this;exact wpAny_truthy_bool hq'
 · refine q h' tk λb o e=>k b o (λz => ?_) (Heap.get?_push_of_some _ e)
   have h1:=Heap.lt_size e;have h2:b=s.heap.objs.size:=by simpa using z
   rw [h2]at h1;exact Nat.lt_irrefl _ h1
theorem Zex(hc:X.calm=true):Z6 X (.builtin "all") (ZgM X.K λbs=>bs.all id):=by
 intro pins s σ H xs us Q I rs h;obtain⟨p,bs,rfl,hq,q⟩:=h;obtain⟨u,rfl,rx⟩:=YV rs;cases rx;have z:=Zc9 (f:=λtr=>(List.range bs.length).all tr) (Q:=EP X pins σ Q) (E:=X.xe) hc I hq λh' tk k=>⟨.bl _,H,I.kept k,rfl,by rw [Zew];exact q⟩
 refine call_all_walk (wpAny_mono z (λit s₂ z2 => ?_) λ_ _ z=>z);obtain⟨I',fp,wr,n,P,St,tr,e1,W,st,ht,en,et,hq'⟩:=z2;exact⟨I',fp,wr,n,P,St,tr,e1,W,st,ht,λh' tk k=>by rw [en];exact hq' h' tk k⟩
theorem Zfe:Z6 X (.builtin "isinstance") (λxs H Q=>∃x c cv t b,xs=[x,c]/\(∀v,RelV c v->v=cv)/\TyOf X.K H x t/\kitOne X.K t cv=some b/\Q (.bl b) H):=by
 intro pins s σ H xs us Q I rs h;obtain⟨x,c,cv,t,b,rfl,hc,ty,e,q⟩:=h;obtain⟨u,w',rfl,rx,rc⟩:=Zie rs;have ec:=hc _ rc;subst ec;exact Zeo I rx ty e λtk=>⟨.bl b,H,I.tok tk,rfl,q⟩
end
section
variable{X:Cx}{K:PySem.W.Frag}{pos:Pos}{tg:Expr}
theorem Zj1(hK:X.K=K:=by rfl):OpR X (compareOp .In) (UR K false):=hK▸Zi6
theorem Za0(hK:X.K=K:=by rfl):OpR X (compareOp .NotIn) (UR K true):=hK▸Zeu
theorem Zw(hK:X.K=K:=by rfl):IxR X (Uw K):=hK▸ZlH
theorem Zlh(hK:X.K=K:=by rfl):SlR X (ZjM K):=hK▸ZlI
theorem YA(hK:X.K=K:=by rfl):Z6 X (.builtin "len") (ZgL K):=hK▸Zev
theorem Zj2(hc:X.calm=true:=by rfl)(hK:X.K=K:=by rfl):Z6 X (.builtin "all") (ZgM K λbs=>bs.all id):=hK▸Zex hc
def ZlJ(K:PySem.W.Frag):List V->Hp->VK->Prop:=λxs H Q=>∃x c cv t b,xs=[x,c]/\(∀v,RelV c v->v=cv)/\TyOf K H x t/\kitOne K t cv=some b/\Q (.bl b) H
theorem Yt{l:Expr}{tl:TE}(hl:PE X l tl)(hK:X.K=K:=by rfl):PI X tg l (Vx K tl):=hK▸Zi5 hl
theorem Xi{e:Expr}{ta:TE}{f:Str}(he:PE X e ta)(hb:attributeBase e f X.env (eval e X.env)=eval e X.env:=by rfl)(hK:X.K=K:=by rfl):PE X (.Attribute e f pos) (J0 K ta f):=hK▸ZiY he hb
def Zga(K:PySem.W.Frag):List V->Hp->VK->Prop:=λxs H Q=>∃p ys,xs=[.ref p]/\((SqL K H p ys/\∀l,H l=none->Q (.ref l) (upd H l (.tup ys)))\/(SqT K H p ys/\Q (.ref p) H))
def Zi7(K:PySem.W.Frag):List V->Hp->VK->Prop:=λxs H Q=>∃p ys,xs=[.ref p]/\(SqL K H p ys\/SqT K H p ys)/\∀l,H l=none->Q (.ref l) (upd H l (.lst ys))
theorem Xj(hK:X.K=K:=by rfl):Z6 X (.type "tuple") (Zga K):=hK▸Zbc
theorem Vf {o e:Expr} {es:List Expr} {to:TE} {t:TA} {name:Str} {apos cpos:Pos} {T id:String} {r:V->List V->Hp->VK->Prop} (pa:PlainAttrs T) (slot:Slot T name id) (hty:typeOf (.builtin id)=pure (.type "method_descriptor")) (hm:MtR X id r) (ho:PE X o to) (ha:PA X (e::es) t)
 (hbase:attributeBase o name X.env (eval o X.env)=eval o X.env:=by rfl)
 (hfew:((backTo cpos (starEach (e::es) X.env)).all (λx => !x.1)&&(backToKw cpos (keywordEach [] X.env)).all (λx=>x.1.isSome)
   && decide ((e::es).length+([]:List Keyword).length+(if([]:List Keyword).isEmpty then 0 else 1)<30))=true:=by rfl)
 (hline:(apos.endLine == cpos.line)=true:=by rfl) (hs:starEach (e::es) X.env=(false,eval e X.env)::starEach es X.env:=by rfl) (hplain:(backTo cpos (starEach es X.env)).any (·.1)=false:=by rfl) (hK:X.K=K:=by rfl) :
 PE X (.Call (.Attribute o name apos) (e::es) [] cpos) (tBM K T r to t):=hK▸ZjX pa slot hty hm ho ha hbase hfew hline hs hplain
theorem US {es:List Expr} {k:Nat} {t:TGs} {n:Nat} (h:PGs X es t) (hc:X.calm=true:=by rfl)
 (hn:(assignEach es X.env).length=n:=by rfl) (hst:(assignEach es X.env).findIdx? (·.1)=none:=by rfl) (hK:X.K=K:=by rfl):PG X (.Tuple es k pos) (JR K n t):=hK▸ZiW hc h hn hst
end
end L2
namespace L2
open PySem PySem.Spec PyProof.Rows
theorem Zff{H:Hp}{q:Addr}{o:HO}(h:H q=none):Same H (upd H q o):=λb u e=>by
 rw [ZI (YZ e h)];exact e
structure Walk(J:It)(xs:List V)(H:Hp):Prop where
 go:∀i,i<xs.length->J.go i H
 yld:∀(i:Nat)v H',i<xs.length->J.yld i H v H'->H'=H/\xs[i]? = some v
 stop:∀i,xs.length<=i->J.stop i H
end L2
namespace L2
open PySem PySem.Spec PyProof.Rows
def ZjN(lo c:Int)(n:Nat):It:=⟨λi _=>i<n,λi H x H'=>H'=H/\x = .int (lo+i*c),λi _=>n<=i⟩
theorem Zcb{P:Program}{w:World}{K:PySem.W.Frag}{tg:Expr}(it:Addr)(lo c:Int)(n:Nat):Turn P w K tg (ZjN lo c n) [it] it (λi h=>IsRangeIter h it (lo+(i:Nat)*c) ((n:Int)-(i:Nat)) c) where
 mem:=by simp
 obj:=λi h st b hb=>by
  have e:b=it:=by simpa using hb
  subst e
  exact⟨_,st,λv z=>by
   have z':Data.fields _=Data.cell v:=z;cases z'⟩
 keep:=λi h h' st k=>k it (by simp) _ st
 item:=by
  intro X hP hw hK hc i pins s σ H E I hf st hg;subst hP hw hK;obtain⟨f0,f1,f2,f3,f4,f5⟩:=hf it (by simp);have W:=Walks.range (prog:=X.prog) (w:=X.w) (I.ok.hd hc) it lo c n;refine W.item i s _ _ hg st λv h' tk hv st' kk => ?_
  obtain⟨t,rfl⟩:=hv;have I1:Inv X pins σ H { s with heap:=h',toks:=tk }:=I.turned (λb o hb e=>kk b o (by simpa using hb) e) f0 f1 f3 f4 f5;exact⟨_,rfl,Qe (s:={ s with heap:=h',toks:=tk }) (n:="range_iterator") st' rfl rfl (by decide) ⟨.int (lo+i*c),H,I1,⟨t,rfl⟩,⟨rfl,rfl⟩,st',λb hb=>(hf b hb).1⟩⟩
 done:=by
  intro X hP hw hK hc i pins s σ H E I hf st hg;subst hP hw hK;obtain⟨f0,f1,f2,f3,f4,f5⟩:=hf it (by simp);exact wpAny_pyNext_range_end (I.ok.hd hc) st (by have:n<=i:=hg;omega) λh' eb=>⟨rfl,I.turned (t':=s.toks) (λb o hb e=>eb b o hb e) f0 f1 f3 f4 f5⟩
 self:=λ_ _ _ _ _ st h=>wpAny_pyIter_rangeiter st h
section
variable{X:Cx}{tg:Expr}
end
end L2
namespace L2
open PySem PySem.Spec PyProof.Rows
section
variable{X:Cx}{elts:List Expr}{x1:Nat}{tpos:Pos}
end
end L2
namespace L2
open PySem PySem.Spec PyProof.Rows
section
variable{κ:Type} [DecidableEq κ]
def Xv(kvs:List (κ×V))(k:κ):Option V:=(kvs.find? λkv=>decide (kv.1=k)).map (·.2)
def Y9(kvs:List (κ×V))(k:κ)(v:V):List (κ×V):=
 if(kvs.any λkv=>decide (kv.1=k))=true then kvs.map (λkv=>if kv.1=k then(kv.1,v)else kv)else kvs++[(k,v)]
theorem Za1{p:κ×V}{r:List (κ×V)}{k:κ}(e:p.1=k):Xv (p::r) k=some p.2:=by simp [Xv,List.find?_cons,e]
theorem Za2{p:κ×V}{r:List (κ×V)}{k:κ}(e:¬p.1=k):Xv (p::r) k=Xv r k:=by simp [Xv,List.find?_cons,e]
theorem Za3(k:κ):∀kvs:List (κ×V),(kvs.any λkv=>decide (kv.1=k))=(Xv kvs k).isSome
 | []=>rfl
 |p::r=>by
  rw [List.any_cons]
  by_cases e:p.1=k
  · simp only [Za1 e,decide_eq_true e,Bool.true_or,Option.isSome_some]
  · rw [Za2 e,decide_eq_false e,Bool.false_or];exact Za3 k r
theorem ZaI(kvs:List (κ×V))(k:κ)(v:V):(Y9 kvs k v).length<=kvs.length+1:=by
 unfold Y9
 split
 · rw [List.length_map];omega
 · rw [List.length_append,List.length_cons,List.length_nil];omega
theorem RelO.isSome_eq{o:Option V}{u:Option Value}(r:RelO o u):o.isSome=u.isSome:=by
 cases o with
 |none=>cases u with
  |none=>rfl
  |some _=>exact(show False from r).elim
 |some _=>cases u with
  |none=>exact(show False from r).elim
  |some _=>rfl
theorem KV.val{kvs:List (κ×V)}{vs:List (κ×Value)}(r:KV kvs vs)(k:κ):RelO (Xv kvs k) (valueAt vs k):=by
 unfold KV at r
 induction r with
 |nil=>exact True.intro
 | @cons p q ps qs h t ih=>
  obtain⟨h1,h2⟩:=h
  by_cases e:p.1=k
  · have e':q.1=k:=h1.symm.trans e
    have b:valueAt (q::qs) k=some q.2:=by simp [valueAt,List.find?_cons,e']
    rw [Za1 e,b];exact h2
  · have e':¬q.1=k:=λz=>e (h1.trans z)
    have b:valueAt (q::qs) k=valueAt qs k:=by simp [valueAt,List.find?_cons,e']
    rw [Za2 e,b];exact ih
theorem KV.any{kvs:List (κ×V)}{vs:List (κ×Value)}(r:KV kvs vs)(k:κ):(kvs.any λkv=>decide (kv.1=k))=vs.any λkv=>decide (kv.1=k):=by
 unfold KV at r
 induction r with
 |nil=>rfl
 |cons h t ih=>rw [List.any_cons,List.any_cons,ih,h.1]
theorem KV.repl{kvs:List (κ×V)}{vs:List (κ×Value)}(r:KV kvs vs)(k:κ){y:V}{u:Value}(ry:RelV y u) :
 KV (kvs.map λkv=>if kv.1=k then(kv.1,y)else kv) (vs.map λkv=>if kv.1=k then(kv.1,u)else kv):=by
 unfold KV at r ⊢
 induction r with
 |nil=>exact .nil
 | @cons p q ps qs h t ih=>
  rw [List.map_cons,List.map_cons];refine .cons ?_ ih;obtain⟨h1,h2⟩:=h
  by_cases e:p.1=k
  · rw [if_pos e,if_pos (h1.symm.trans e)];exact⟨h1,ry⟩
  · rw [if_neg e,if_neg (λz=>e (h1.trans z))];exact⟨h1,h2⟩
theorem KV.put{kvs:List (κ×V)}{vs:List (κ×Value)}(r:KV kvs vs)(k:κ){y:V}{u:Value}(ry:RelV y u):KV (Y9 kvs k y) (stored vs k u):=by
 unfold Y9 stored;rw [r.any k]
 by_cases e:(vs.any λkv=>decide (kv.1=k))=true
 · rw [if_pos e,if_pos e];exact r.repl k ry
 · rw [if_neg e,if_neg e];exact Paired.snoc r ⟨rfl,ry⟩
theorem KV.length{kvs:List (κ×V)}{vs:List (κ×Value)}(r:KV kvs vs):kvs.length=vs.length:=Paired.length r
end
theorem ZgN{P:Program}{w:World}{k:Key}{u:Value}(r:RelV (kV k) u):(Xg P w).is k u=true:=by
 cases k with
 |inl i=>obtain⟨t,e⟩:=(show ∃t,u=Value.int i t from r);subst e;exact Zb9 P w i t
 |inr x=>obtain⟨t,e⟩:=(show ∃t,u=Value.str x t from r);subst e;exact Zca P w x t
theorem Zbn{P:Program}{w:World}:∀{ks:List Key}{us:List Value},Vals (ks.map kV) us->ItemsAre (Xg P w) ks us
 | [],_,r=>by rw [List.map_nil]at r;cases r;exact .nil
 |k::ks,_,r=>by
  rw [List.map_cons]at r;cases r with
  |cons h t=>exact .cons (ZgN h) (Zbn t)
abbrev KT(H:Hp):List (List Key×V)->List (List Key×Addr×Value)->Prop:=Paired λp q=>p.1=q.1/\H q.2.1=some (.tup (p.1.map kV))/\RelV p.2 q.2.2
theorem KT.val{H:Hp}{kvs:List (List Key×V)}{xs:List (List Key×Addr×Value)}(r:KT H kvs xs)(k:List Key):RelO (Xv kvs k) ((atKey xs k).map (·.2)):=by
 induction r with
 |nil=>exact True.intro
 | @cons p q ps qs h t ih=>
  obtain⟨h1,_,h2⟩:=h
  by_cases e:p.1=k
  · have e':q.1=k:=h1.symm.trans e
    have b:atKey (q::qs) k=some q.2:=by simp [atKey,List.find?_cons,e']
    rw [Za1 e,b];exact h2
  · have e':¬q.1=k:=λz=>e (h1.trans z)
    have b:atKey (q::qs) k=atKey qs k:=by simp [atKey,List.find?_cons,e']
    rw [Za2 e,b];exact ih
theorem KT.repl{H:Hp}{kvs:List (List Key×V)}{xs:List (List Key×Addr×Value)}(r:KT H kvs xs)(k:List Key){y:V}{u:Value}(ry:RelV y u) :
 KT H (kvs.map λkv=>if kv.1=k then(kv.1,y)else kv) (xs.map (putAt k u)):=by
 induction r with
 |nil=>exact .nil
 | @cons p q ps qs h t ih=>
  rw [List.map_cons,List.map_cons];refine .cons ?_ ih;obtain⟨h1,h2,h3⟩:=h;unfold putAt
  by_cases e:p.1=k
  · rw [if_pos e,if_pos (h1.symm.trans e)];exact⟨h1,h2,ry⟩
  · rw [if_neg e,if_neg (λz=>e (h1.trans z))];exact⟨h1,h2,h3⟩
theorem KT.put{H:Hp}{kvs:List (List Key×V)}{xs:List (List Key×Addr×Value)}(r:KT H kvs xs)(k:List Key){b:Addr}{y:V}{u:Value}(hb:H b=some (.tup (k.map kV)))(ry:RelV y u) :
 KT H (Y9 kvs k y) (storedH xs k b u):=by
 have e:(kvs.any λkv=>decide (kv.1=k))=(atKey xs k).isSome:=by
  rw [Za3,(r.val k).isSome_eq,Option.isSome_map]
 unfold Y9 storedH;rw [e]
 by_cases q:(atKey xs k).isSome=true
 · rw [if_pos q,if_pos q];exact r.repl k ry
 · rw [if_neg q,if_neg q];exact Paired.snoc r ⟨rfl,hb,ry⟩
theorem KT.keeps{H H':Hp}{kvs:List (List Key×V)}{xs:List (List Key×Addr×Value)}(r:KT H kvs xs)(ht:∀b ys,H b=some (.tup ys)->H' b=some (.tup ys)):KT H' kvs xs:=
 Paired.mapP r λ_ _ z=>⟨z.1,ht _ _ z.2.1,z.2.2⟩
section
variable{P:Program}{w:World}{H:Hp}{h:Heap}{a:Addr}
theorem Zij{u:HO}(ok:HOk P w H h)(e:Rd H a u):ObjOk P w H h a u:=e.ok ok
theorem ZgO{kvs:List (Key×V)}(ok:HOk P w H h)(e:Rd H a (.dK kvs)):kvs.length<=sizeLine/\(a == sysModules)=false/\∃vs,KV kvs vs/\h.DictOf (Xg P w) a vs:=
 show ObjOk P w H h a (.dK kvs)from Zij ok e
theorem Zj3{kvs:List (Key×V)}(ok:HOk P w H h)(e:H a=some (.dK kvs)):kvs.length<=sizeLine/\(a == sysModules)=false/\∃vs,KV kvs vs/\h.DictOf (Xg P w) a vs:=ZgO ok (.inl e)
theorem QQ{ks:List Key}(ok:HOk P w H h)(e:H a=some (.tup (ks.map kV))):(tupleKind (Xg P w)).is h ks a:=by
 obtain⟨_,its,r,o,h1,h2,⟨n,h3⟩,_⟩:=(show ObjOk P w H h a (.tup (ks.map kV))from ok a _ e)
 exact⟨o,its.toArray,n,h1,h2,h3,by simpa using Zbn r⟩
theorem Zik{kvs:List (List Key×V)}(ok:HOk P w H h)(e:Rd H a (.dT kvs)):kvs.length<=sizeLine/\(a == sysModules)=false /\
 ∃xs,KT H kvs xs/\h.DictOfH (tupleKind (Xg P w)) a xs:=by
 obtain⟨z,y,xs,r,o,es,ep,h1,h2,h3,h4,h5⟩:=(show ObjOk P w H h a (.dT kvs)from Zij ok e)
 refine⟨z,y,xs,r,o,es,ep,h1,h2,h3,h4,λx hx => ?_,h5⟩
 have all:∀{l:List (List Key×V)}{m:List (List Key×Addr×Value)},KT H l m->∀x∈m,(tupleKind (Xg P w)).is h x.1 x.2.1:=by
  intro l m q
  induction q with
  |nil=>intro x hx;exact nomatch hx
  | @cons p q ps qs hq t ih=>
   intro x hx;rcases List.mem_cons.mp hx with e|hx
   · subst e
     exact QQ ok (by rw [<-hq.1];exact hq.2.1)
   · exact ih x hx
 exact all r x hx
theorem Zj4{kvs:List (List Key×V)}(ok:HOk P w H h)(e:H a=some (.dT kvs)):kvs.length<=sizeLine/\(a == sysModules)=false /\
 ∃xs,KT H kvs xs/\h.DictOfH (tupleKind (Xg P w)) a xs:=Zik ok (.inl e)
end
def DGet(H:Hp)(a:Addr)(y:V)(r:Option V):Prop:=
 (∃kvs k,Rd H a (.dK kvs)/\y=kV k/\r=Xv kvs k)\/∃kvs k b,Rd H a (.dT kvs)/\y = .ref b/\H b=some (.tup (k.map kV))/\r=Xv kvs k
def DPut(H:Hp)(a:Addr)(y v:V)(H':Hp):Prop:=
 (∃kvs k,H a=some (.dK kvs)/\y=kV k/\kvs.length<sizeLine/\H'=upd H a (.dK (Y9 kvs k v))) \/
 ∃kvs k b,H a=some (.dT kvs)/\y = .ref b/\H b=some (.tup (k.map kV))/\kvs.length<sizeLine/\H'=upd H a (.dT (Y9 kvs k v))
theorem DGet.k{H:Hp}{a:Addr}{kvs:List (Key×V)}{k:Key}(e:H a=some (.dK kvs)):DGet H a (kV k) (Xv kvs k) := .inl ⟨kvs,k,.inl e,rfl,rfl⟩
theorem DGet.t{H:Hp}{a b:Addr}{kvs:List (List Key×V)}{k:List Key}(e:H a=some (.dT kvs))(eb:H b=some (.tup (k.map kV))):DGet H a (.ref b) (Xv kvs k) := .inr ⟨kvs,k,b,.inl e,rfl,eb,rfl⟩
theorem DPut.k{H:Hp}{a:Addr}{kvs:List (Key×V)}{k:Key}{v:V}(e:H a=some (.dK kvs))(hl:kvs.length<sizeLine):DPut H a (kV k) v (upd H a (.dK (Y9 kvs k v))) := .inl ⟨kvs,k,e,rfl,hl,rfl⟩
theorem DPut.t{H:Hp}{a b:Addr}{kvs:List (List Key×V)}{k:List Key}{v:V}(e:H a=some (.dT kvs))(eb:H b=some (.tup (k.map kV)))(hl:kvs.length<sizeLine) :
 DPut H a (.ref b) v (upd H a (.dT (Y9 kvs k v))) := .inr ⟨kvs,k,b,e,rfl,eb,hl,rfl⟩
section
variable{X:Cx}{pins:List (Addr×Obj)}{σ:St}{H:Hp}{s:Shared}{a:Addr}{y v:V}{u r:Value}{o:Option V}{A:Around}{E:Value->Shared->Prop}
theorem Inv.big(I:Inv X pins σ H s):sysModules<s.heap.objs.size:=by
 have h:mainGlobals<s.heap.objs.size:=(I.mod.glob.keeps I.bk).lt;exact Nat.lt_trans (by decide) h
theorem Zhg{Q:Value->Shared->Prop}(hu:A.units+1<cLine)(I:Inv X pins σ H s)(g:DGet H a y o)(ry:RelV y u)(h:∀s',Inv X pins σ H s'->Q (.bool (!o.isSome)) s') :
 wpAny (model X.prog X.w) A (compareOp .NotIn u (.ref a)) Q E s:=by
 rcases g with⟨kvs,k,e,ey,l⟩|⟨kvs,k,b,e,ey,eb,l⟩
 · subst ey
   obtain⟨z,hd,vs,rel,dd⟩:=ZgO I.hok e;refine wpAny_notIn_of (ZgN ry) hd dd.mapOf ?_;rw [<-(rel.val k).isSome_eq,<-l];exact h _ (I.tok _)
 · subst ey
   cases(show u=Value.ref b from ry);obtain⟨z,hd,xs,rel,dd⟩:=Zik I.hok e;refine wpAny_notIn_heap (tupleKind_room_in1 hu) (QQ I.hok eb) hd dd ?_;have q:=(rel.val k).isSome_eq;rw [Option.isSome_map]at q;rw [<-q,<-l];exact h _ (I.tok _)
theorem ZdM{h':Heap}{t':Nat}{ob:HO}(I:Inv X pins σ H s)(mu:Mut (H a))(hs:Heap.SameBut a s.heap h')(he:∃q,h'.get? a=some q)(new:ObjOk X.prog X.w (upd H a ob) h' a ob) :
 Inv X pins σ (upd H a ob) { s with heap:=h',toks:=t' }:=
 I.write (x:=a) (e:=a) mu (.inl rfl) (λb q hb z=>(hs.2 b hb).trans z) he new
theorem Zi8{P:Program}{w:World}{H':Hp}{h':Heap}{kvs:List (Key×V)}{vs:List (Key×Value)}(z:kvs.length<=sizeLine)(hd:(a == sysModules)=false)(rel:KV kvs vs)(dd:h'.DictOf (Xg P w) a vs) :
 ObjOk P w H' h' a (.dK kvs):=⟨z,hd,vs,rel,dd⟩
theorem Zey{H':Hp}{Q:Unit->Shared->Prop}(hu:A.units+1<cLine)(I:Inv X pins σ H s)(g:DPut H a y v H')(ry:RelV y u)(rv:RelV v r)(h:∀s',Inv X pins σ H' s'->Q () s') :
 wpAny (model X.prog X.w) A (setItem (.ref a) u r) Q E s:=by
 rcases g with⟨kvs,k,e,ey,l,eH⟩|⟨kvs,k,b,e,ey,eb,l,eH⟩
 · subst ey eH
   obtain⟨z,hd,vs,rel,dd⟩:=Zj3 I.hok e;have hz:vs.length<=sizeLine:=by rw [<-rel.length];exact z
   have hl:(Y9 kvs k v).length<=sizeLine:=by have:=ZaI kvs k v;omega
   refine wpAny_setItem_pairs (hsz:=hz) (ZgN ry) dd λh' dd' hs=>h _ ?_
   have he:∃q,h'.get? a=some q:=let⟨q,_,_,hq,_⟩:=dd';⟨q,hq⟩
   exact ZdM I (by rw [e];exact True.intro) hs he (Zi8 hl hd (rel.put k rv) dd')
 · subst ey eH
   cases(show u=Value.ref b from ry);obtain⟨z,hd,xs,rel,dd⟩:=Zj4 I.hok e;have hz:xs.length<=sizeLine:=by rw [<-Paired.length rel];exact z
   have hl:(Y9 kvs k v).length<=sizeLine:=by have:=ZaI kvs k v;omega
   refine wpAny_setItem_heap (hsz:=hz) (tupleKind_room_in1 hu) (QQ I.hok eb) dd λh' dd' hs=>h _ ?_
   obtain⟨q,es,ep,hq,h2,h3,h4,_,h5⟩:=dd';refine ZdM I (by rw [e];exact True.intro) hs ⟨q,hq⟩ ⟨hl,hd,_,(rel.put k eb rv).keeps λc ys ec => ?_,q,es,ep,hq,h2,h3,h4,h5⟩;rw [ZI (QG ec e (λz=>nomatch z))];exact ec
end
section
variable{X:Cx}{pins:List (Addr×Obj)}{σ:St}{H:Hp}{s:Shared}{a:Addr}{kvs:List (Key×V)}{k:Key}{u:Value}{A:Around}{E:Value->Shared->Prop}
theorem Zj5{Q:Value->Shared->Prop}(I:Inv X pins σ H s)(e:Rd H a (.dK kvs))(h:∀t s',Inv X pins σ H s'->Q (.int kvs.length t) s'):wpAny (model X.prog X.w) A (call (.builtin "len") [.ref a]) Q E s:=by
 obtain⟨z,hd,vs,rel,dd⟩:=ZgO I.hok e;refine call_len_dict hd dd (by rw [<-rel.length];rw [sizeLine_eq]at z;omega) ?_;rw [<-rel.length];exact h _ _ (I.tok _)
end
def ZdN(ty td:TE):TE:=λσ H Q=>ty σ H λy H1=>td σ H1 λx H2=>∃a o,x = .ref a/\DGet H2 a y o/\Q (.bl (!o.isSome)) H2
def Zil(td ty tv:TE):TS:=λD σ H=>tv σ H λv H1=>td σ H1 λx H2=>ty σ H2 λy H3=>∃a H4,x = .ref a/\DPut H3 a y v H4/\D.nx σ H4
section
variable{X:Cx}{o i e value:Expr}{pos pos' tpos:Pos}{td ty tv:TE}
theorem Zez(hu:X.A.units+1<cLine)(hi:PE X i ty)(ho:PE X o td):PC X .NotIn i o (ZdN ty td):=by
 intro pins s σ H Q I h;refine thn (hi pins s σ H _ I h) λiv s1 ⟨y,H1,I1,ry,q1⟩=>thn (ho pins s1 σ H1 _ I1 q1) λu s2 ⟨x,H2,I2,rx,a,ov,ex,g,q2⟩ => ?_
 subst ex;obtain rfl:u=Value.ref a:=rx;exact Zhg hu I2 g ry λs3 I3=>⟨.bl (!ov.isSome),H2,I3,rfl,q2⟩
theorem Zhh(hu:X.A.units+1<cLine)(ho:PE X o td)(hi:PE X i ty)(hv:PE X value tv)(hs:swapsWith value (some (.Subscript o i pos')) pos.line X.env=pure false) :
 PS X (.Assign [.Subscript o i pos'] value pos) (Zil td ty tv):=by
 intro pins s σ H D I h;refine wpAny_Assign_Subscript (thn (hv pins s σ H _ I h) λr s1 ⟨v,H1,I1,rv,q1⟩=>thn (ho pins s1 σ H1 _ I1 q1) λu s2 ⟨x,H2,I2,rx,q2⟩=>thn (hi pins s2 σ H2 _ I2 q2) λiv s3 ⟨y,H3,I3,ry,a,H4,ex,g,q3⟩ => ?_) hs;subst ex;obtain rfl:u=Value.ref a:=rx;exact Zey hu I3 g ry rv λs4 I4=>⟨σ,H4,I4,q3⟩
end
theorem Zfg{P:Program}{w:World}{H:Hp}(h:Heap)(hb:sysModules<h.objs.size):ObjOk P w H (h.push { cls := .type "dict",data := .dict #[] }) h.objs.size (.dK []):=
 ⟨Nat.zero_le _,beq_eq_false_iff_ne.mpr (Ne.symm (Nat.ne_of_lt hb)),[],.nil,Heap.DictOf.new h⟩
def tDNewK:TE:=λ_ H Q=>∀p,H p=none->Q (.ref p) (upd H p (.dK []))
section
variable{X:Cx}{pos:Pos}
theorem Zfh:PE X (.Dict [] [] pos) tDNewK:=λpins s σ H Q I h=>
 wpAny_Dict_empty ⟨.ref s.heap.objs.size,_,I.laid (a:=s.heap.objs.size) (o:=.dK []) (t':=s.toks) (λ_ _ q=>Heap.get?_push_of_some _ q) (Nat.le_refl _) (Zfg s.heap I.big),rfl,h _ (I.hok.fresh (Nat.le_refl _))⟩
end
structure M1(X:Cx)(o:Expr)(m:Str)(apos:Pos)(e:Expr)(cpos:Pos):Prop where
 base:attributeBase o m X.env (eval o X.env)=eval o X.env
 few:((backTo cpos (starEach [e] X.env)).all (λx => !x.1)&&(backToKw cpos (keywordEach [] X.env)).all (λx=>x.1.isSome)
  && decide (([e]:List Expr).length+([]:List Keyword).length+(if([]:List Keyword).isEmpty then 0 else 1)<30))=true
 line:(apos.endLine == cpos.line)=true
 trees:backTo cpos (starEach [e] X.env)=[(false,eval e X.env)]
structure M2(X:Cx)(o:Expr)(m:Str)(apos:Pos)(e f:Expr)(cpos:Pos):Prop where
 base:attributeBase o m X.env (eval o X.env)=eval o X.env
 few:((backTo cpos (starEach [e,f] X.env)).all (λx => !x.1)&&(backToKw cpos (keywordEach [] X.env)).all (λx=>x.1.isSome)
  && decide (([e,f]:List Expr).length+([]:List Keyword).length+(if([]:List Keyword).isEmpty then 0 else 1)<30))=true
 line:(apos.endLine == cpos.line)=true
 trees:backTo cpos (starEach [e,f] X.env)=[(false,eval e X.env),(false,eval f X.env)]
section
variable{X:Cx}{pins:List (Addr×Obj)}{σ:St}{H:Hp}{s:Shared}{a:Addr}{y d:V}{u r:Value}{o:Option V}{A:Around}{E:Value->Shared->Prop}
end
section
variable{X:Cx}{o e f:Expr}{apos cpos:Pos}{td ty tx:TE}
end
section
variable{X:Cx}{pins:List (Addr×Obj)}{σ:St}{H:Hp}{s:Shared}{a:Addr}{kvs:List (Key×V)}{A:Around}{E:Value->Shared->Prop}
end
section
variable{X:Cx}{pins:List (Addr×Obj)}{σ:St}{H:Hp}{s:Shared}{a:Addr}{y:V}{u:Value}{A:Around}{E:Value->Shared->Prop}
end
end L2
namespace DL
open PySem PySem.Spec L2
inductive D where
 |non
 |bl (b:Bool)
 |int (i:Int)
 |str (cs:List Nat)
 |lst (xs:List D)
 |tup (xs:List D)
 |obj (c:String) (ks:List String) (xs:List D)
 |dct (ks:List Key) (xs:List D)
 |dtt (ks:List (List Key)) (xs:List D)
def KL(K:PySem.W.Frag)(a:Addr)(vs:List V):Prop:=∃(o:Obj) (its:Array Value) (n:Nat),K.lookup a=some o/\o.cls = .type "list" /\ o.dict=none/\o.data = .seq its n/\its.size<=sizeLine/\Vals vs its.toList
structure Kn where
 c:String->Addr
 K:PySem.W.Frag
def ZA:D->Bool
 | .non=>true
 | .bl _=>true
 | .int _=>true
 | .str _=>true
 |_=>false
mutual
def Rep(cA:Kn)(av:Addr->Prop)(H:Hp):D->V->Prop
 | .non,v=>v = .non
 | .bl b,v=>v = .bl b
 | .int i,v=>v = .int i
 | .str cs,v=>v=S cs
 | .lst xs,v=>∃a vs,v = .ref a/\(av a->KL cA.K a vs)/\SqL cA.K H a vs/\RepL cA av H xs vs
 | .tup xs,v=>∃a vs,v = .ref a/\¬av a/\H a=some (.tup vs)/\RepL cA av H xs vs
 | .obj c ks xs,v=>∃a dx vs,v = .ref a/\¬av a/\H a=some (.ins (cA.c c) dx ((ks.map Str.ofString).zip vs))/\ks.length=xs.length/\RepL cA av H xs vs
 | .dct ks xs,v=>∃a vs,v = .ref a/\¬av a/\H a=some (.dK (ks.zip vs))/\ks.length=xs.length/\RepL cA av H xs vs
 | .dtt ks xs,v=>∃a vs,v = .ref a/\¬av a/\H a=some (.dT (ks.zip vs))/\ks.length=xs.length/\RepL cA av H xs vs
def RepL(cA:Kn)(av:Addr->Prop)(H:Hp):List D->List V->Prop
 | [],vs=>vs=[]
 |x::xs,vs=>∃v r,vs=v::r/\Rep cA av H x v/\RepL cA av H xs r
end
section
variable{cA:Kn}{G:Cn}{av av':Addr->Prop}{H H':Hp}
theorem Rd.ext{a:Addr}{u:HO}(h:Rd H a u)(k:∀o,H a=some o->H' a=some o):Rd H' a u:=by
 rcases h with h|⟨o,h⟩
 · exact .inl (k _ h)
 · exact .inr ⟨o,k _ h⟩
theorem Rd.there{a:Addr}{u:HO}(h:Rd H a u):H a≠none:=by
 rcases h with h|⟨o,h⟩<;>rw [h]<;>exact λz=>by cases z
theorem Zdp{K:PySem.W.Frag}{a:Addr}{vs:List V}(n:av a->KL K a vs)(r:SqL K H a vs)(k:∀b o,¬av b->H b=some o->H' b=some o):SqL K H' a vs:=by
 by_cases h:av a
 · exact .inr (n h)
 · rcases r with r|r
   · exact .inl (Rd.ext r λo=>k a o h)
   · exact .inr r
theorem Zj6{K:PySem.W.Frag}{a:Addr}{vs:List V}(n:av a->KL K a vs)(r:SqL K H a vs)(k:∀b,av' b->av b\/H b=none):av' a->KL K a vs:=λz=>by
 rcases k a z with z|z
 · exact n z
 · rcases r with r|r
   · exact absurd z (Rd.there r)
   · exact r
mutual
theorem Rep.ext:∀{d:D}{v:V},(∀b o,¬av b->H b=some o->H' b=some o)->Rep cA av H d v->Rep cA av H' d v
 | .non,_,_,h=>h
 | .bl _,_,_,h=>h
 | .int _,_,_,h=>h
 | .str _,_,_,h=>h
 | .lst xs,v,k,h=>by
  unfold Rep at h ⊢;obtain⟨a,vs,e,n,r,l⟩:=h;exact⟨a,vs,e,n,Zdp n r k,RepL.ext k l⟩
 | .tup xs,v,k,h=>by
  unfold Rep at h ⊢;obtain⟨a,vs,e,n,r,l⟩:=h;exact⟨a,vs,e,n,k a _ n r,RepL.ext k l⟩
 | .obj c ks xs,v,k,h=>by
  unfold Rep at h ⊢;obtain⟨a,dx,vs,e,n,r,z,l⟩:=h;exact⟨a,dx,vs,e,n,k a _ n r,z,RepL.ext k l⟩
 | .dct ks xs,v,k,h=>by
  unfold Rep at h ⊢;obtain⟨a,vs,e,n,r,z,l⟩:=h;exact⟨a,vs,e,n,k a _ n r,z,RepL.ext k l⟩
 | .dtt ks xs,v,k,h=>by
  unfold Rep at h ⊢;obtain⟨a,vs,e,n,r,z,l⟩:=h;exact⟨a,vs,e,n,k a _ n r,z,RepL.ext k l⟩
theorem RepL.ext:∀{xs:List D}{vs:List V},(∀b o,¬av b->H b=some o->H' b=some o)->RepL cA av H xs vs->RepL cA av H' xs vs
 | [],_,_,h=>h
 |x::xs,vs,k,h=>by
  unfold RepL at h ⊢;obtain⟨v,r,e,h1,h2⟩:=h;exact⟨v,r,e,Rep.ext k h1,RepL.ext k h2⟩
end
mutual
theorem Rep.av:∀{d:D}{v:V},(∀b,av' b->av b\/H b=none)->Rep cA av H d v->Rep cA av' H d v
 | .non,_,_,h=>h
 | .bl _,_,_,h=>h
 | .int _,_,_,h=>h
 | .str _,_,_,h=>h
 | .lst xs,v,k,h=>by
  unfold Rep at h ⊢;obtain⟨a,vs,e,n,r,l⟩:=h;exact⟨a,vs,e,Zj6 n r k,r,RepL.av k l⟩
 | .tup xs,v,k,h=>by
  unfold Rep at h ⊢;obtain⟨a,vs,e,n,r,l⟩:=h;exact⟨a,vs,e,λz=>(k a z).elim n (by rw [r];exact λz=>by cases z),r,RepL.av k l⟩
 | .obj c ks xs,v,k,h=>by
  unfold Rep at h ⊢;obtain⟨a,dx,vs,e,n,r,z,l⟩:=h;exact⟨a,dx,vs,e,λy=>(k a y).elim n (by rw [r];exact λz=>by cases z),r,z,RepL.av k l⟩
 | .dct ks xs,v,k,h=>by
  unfold Rep at h ⊢;obtain⟨a,vs,e,n,r,z,l⟩:=h;exact⟨a,vs,e,λy=>(k a y).elim n (by rw [r];exact λz=>by cases z),r,z,RepL.av k l⟩
 | .dtt ks xs,v,k,h=>by
  unfold Rep at h ⊢;obtain⟨a,vs,e,n,r,z,l⟩:=h;exact⟨a,vs,e,λy=>(k a y).elim n (by rw [r];exact λz=>by cases z),r,z,RepL.av k l⟩
theorem RepL.av:∀{xs:List D}{vs:List V},(∀b,av' b->av b\/H b=none)->RepL cA av H xs vs->RepL cA av' H xs vs
 | [],_,_,h=>h
 |x::xs,vs,k,h=>by
  unfold RepL at h ⊢;obtain⟨v,r,e,h1,h2⟩:=h;exact⟨v,r,e,Rep.av k h1,RepL.av k h2⟩
end
theorem Rep.scal{d:D}{v:V}(hs:ZA d=true)(h:Rep cA av H d v):Rep cA av' H' d v:=by
 cases d<;>first|exact h|cases hs
theorem Rep.same{d:D}{v:V}(k:Same H H')(h:Rep cA av H d v):Rep cA av H' d v:=h.ext λb o _=>k b o
theorem RepL.same{xs:List D}{vs:List V}(k:Same H H')(h:RepL cA av H xs vs):RepL cA av H' xs vs:=h.ext λb o _=>k b o
theorem RepL.nil:RepL cA av H [] []:=by unfold RepL;rfl
theorem RepL.cons{d:D}{v:V}{xs:List D}{vs:List V}(h:Rep cA av H d v)(t:RepL cA av H xs vs):RepL cA av H (d::xs) (v::vs):=by
 unfold RepL;exact⟨v,vs,rfl,h,t⟩
theorem RepL.uncons{d:D}{xs:List D}{vs:List V}(h:RepL cA av H (d::xs) vs):∃v r,vs=v::r/\Rep cA av H d v/\RepL cA av H xs r:=by
 unfold RepL at h;exact h
theorem RepL.nil_of{vs:List V}(h:RepL cA av H [] vs):vs=[]:=by
 unfold RepL at h;exact h
theorem RepL.length:∀{xs:List D}{vs:List V},RepL cA av H xs vs->xs.length=vs.length
 | [],vs,h=>by rw [h.nil_of];rfl
 |x::xs,vs,h=>by
  obtain⟨v,r,rfl,_,t⟩:=h.uncons;rw [List.length_cons,List.length_cons,RepL.length t]
theorem RepL.get:∀{xs:List D}{vs:List V}{i:Nat}{x:D},RepL cA av H xs vs->xs[i]? = some x->∃v,vs[i]? = some v/\Rep cA av H x v
 | [],_,_,_,_,e=>by simp at e
 |y::xs,vs,0,x,h,e=>by
  obtain⟨v,r,rfl,h1,_⟩:=h.uncons;simp at e;subst e;exact⟨v,rfl,h1⟩
 |y::xs,vs,i+1,x,h,e=>by
  obtain⟨v,r,rfl,_,t⟩:=h.uncons;obtain⟨u,h1,h2⟩:=RepL.get (i:=i) t (by simpa using e);exact⟨u,by simpa using h1,h2⟩
theorem RepL.append:∀{xs ys:List D}{vs ws:List V},RepL cA av H xs vs->RepL cA av H ys ws->RepL cA av H (xs++ys) (vs++ws)
 | [],_,vs,_,h,t=>by rw [h.nil_of];exact t
 |x::xs,ys,vs,ws,h,t=>by
  obtain⟨v,r,rfl,h1,h2⟩:=h.uncons;exact .cons h1 (RepL.append h2 t)
theorem RepL.drop:∀{xs:List D}{vs:List V}(n:Nat),RepL cA av H xs vs->RepL cA av H (xs.drop n) (vs.drop n)
 |_,_,0,h=>h
 | [],vs,n+1,h=>by rw [h.nil_of];exact .nil
 |x::xs,vs,n+1,h=>by
  obtain⟨v,r,rfl,_,h2⟩:=h.uncons;exact RepL.drop n h2
theorem RepL.take:∀{xs:List D}{vs:List V}(n:Nat),RepL cA av H xs vs->RepL cA av H (xs.take n) (vs.take n)
 |_,_,0,h=>by simp;exact .nil
 | [],vs,n+1,h=>by rw [h.nil_of];exact .nil
 |x::xs,vs,n+1,h=>by
  obtain⟨v,r,rfl,h1,h2⟩:=h.uncons;exact .cons h1 (RepL.take n h2)
theorem RepL.set{d:D}{v:V}(hd:Rep cA av H d v):∀{xs:List D}{vs:List V}(i:Nat),RepL cA av H xs vs->RepL cA av H (xs.set i d) (vs.set i v)
 | [],vs,_,h=>by rw [h.nil_of];exact .nil
 |x::xs,vs,0,h=>by
  obtain⟨v',r,rfl,h1,h2⟩:=h.uncons;exact .cons hd h2
 |x::xs,vs,i+1,h=>by
  obtain⟨v',r,rfl,h1,h2⟩:=h.uncons;exact .cons h1 (RepL.set hd i h2)
def val:D->V
 | .bl b => .bl b
 | .int i => .int i
 | .str cs=>S cs
 |_ => .non
theorem Rep.val{d:D}{v:V}(hs:ZA d=true)(h:Rep cA av H d v):v=DL.val d:=by
 cases d<;>first|exact h|cases hs
theorem Rep.of_val{d:D}(hs:ZA d=true):Rep cA av H d (DL.val d):=by
 cases d<;>first|rfl|cases hs
theorem RepL.vals:∀{xs:List D}{vs:List V},xs.all ZA=true->RepL cA av H xs vs->vs=xs.map DL.val
 | [],vs,_,h=>h.nil_of
 |x::xs,vs,hs,h=>by
  rw [List.all_cons,Bool.and_eq_true]at hs;obtain⟨v,r,rfl,h1,h2⟩:=h.uncons;rw [List.map_cons,h1.val hs.1,RepL.vals hs.2 h2]
theorem RepL.of_vals:∀{xs:List D},xs.all ZA=true->RepL cA av H xs (xs.map DL.val)
 | [],_ => .nil
 |x::xs,hs=>by
  rw [List.all_cons,Bool.and_eq_true]at hs;exact .cons (.of_val hs.1) (RepL.of_vals hs.2)
def RepT(cA:Kn)(t i:Addr->Prop)(H:Hp):D->V->Prop
 | .lst xs,v=>∃a vs,v = .ref a/\(t a->KL cA.K a vs)/\SqL cA.K H a vs/\RepL cA i H xs vs
 | .tup xs,v=>∃a vs,v = .ref a/\¬t a/\H a=some (.tup vs)/\RepL cA i H xs vs
 | .obj c ks xs,v=>∃a dx vs,v = .ref a/\¬t a/\H a=some (.ins (cA.c c) dx ((ks.map Str.ofString).zip vs))/\ks.length=xs.length/\RepL cA i H xs vs
 | .dct ks xs,v=>∃a vs,v = .ref a/\¬t a/\H a=some (.dK (ks.zip vs))/\ks.length=xs.length/\RepL cA i H xs vs
 | .dtt ks xs,v=>∃a vs,v = .ref a/\¬t a/\H a=some (.dT (ks.zip vs))/\ks.length=xs.length/\RepL cA i H xs vs
 |d,v=>v=DL.val d
theorem Rep.t{d:D}{v:V}(h:Rep cA av H d v):RepT cA av av H d v:=by
 cases d<;>first|exact h|(unfold Rep at h;exact h)
theorem RepT.r{d:D}{v:V}(h:RepT cA av av H d v):Rep cA av H d v:=by
 cases d<;>first|exact h|(unfold Rep;exact h)
theorem RepT.weak{t t' i i':Addr->Prop}{d:D}{v:V}(ht:∀a,t' a->t a)(hi:∀a,i' a->i a)(h:RepT cA t i H d v):RepT cA t' i' H d v:=by
 cases d with
 |lst xs=>obtain⟨a,vs,e,n,r,l⟩:=h;exact⟨a,vs,e,λz=>n (ht a z),r,l.av λb z => .inl (hi b z)⟩
 |tup xs=>obtain⟨a,vs,e,n,r,l⟩:=h;exact⟨a,vs,e,λz=>n (ht a z),r,l.av λb z => .inl (hi b z)⟩
 |obj c ks xs=>obtain⟨a,dx,vs,e,n,r,z,l⟩:=h;exact⟨a,dx,vs,e,λz=>n (ht a z),r,z,l.av λb z => .inl (hi b z)⟩
 |dct ks xs=>obtain⟨a,vs,e,n,r,z,l⟩:=h;exact⟨a,vs,e,λz=>n (ht a z),r,z,l.av λb z => .inl (hi b z)⟩
 |dtt ks xs=>obtain⟨a,vs,e,n,r,z,l⟩:=h;exact⟨a,vs,e,λz=>n (ht a z),r,z,l.av λb z => .inl (hi b z)⟩
 |_=>exact h
theorem RepT.same{t i:Addr->Prop}{d:D}{v:V}(k:Same H H')(h:RepT cA t i H d v):RepT cA t i H' d v:=by
 cases d with
 |lst xs=>obtain⟨a,vs,e,n,r,l⟩:=h;exact⟨a,vs,e,n,k.seq r,l.same k⟩
 |tup xs=>obtain⟨a,vs,e,n,r,l⟩:=h;exact⟨a,vs,e,n,k a _ r,l.same k⟩
 |obj c ks xs=>obtain⟨a,dx,vs,e,n,r,z,l⟩:=h;exact⟨a,dx,vs,e,n,k a _ r,z,l.same k⟩
 |dct ks xs=>obtain⟨a,vs,e,n,r,z,l⟩:=h;exact⟨a,vs,e,n,k a _ r,z,l.same k⟩
 |dtt ks xs=>obtain⟨a,vs,e,n,r,z,l⟩:=h;exact⟨a,vs,e,n,k a _ r,z,l.same k⟩
 |_=>exact h
end
abbrev Env:=List (Option D)
structure Cn where
 cA:Kn
 pin:Nat->Option (Addr ⊕ V)
def AV(av:Addr->Prop)(A:Nat->Option Addr)(a:Addr):Prop:=av a\/∃i,A i=some a
def Own(cA:Kn)(av:Addr->Prop)(H:Hp):D->Addr->Prop
 | .lst xs,a=>∃vs,H a=some (.lst vs)/\RepL cA av H xs vs
 | .obj c ks xs,a=>∃dx vs,H a=some (.ins (cA.c c) dx ((ks.map Str.ofString).zip vs))/\ks.length=xs.length/\RepL cA av H xs vs
 | .dct ks xs,a=>∃vs,H a=some (.dK (ks.zip vs))/\ks.length=xs.length/\RepL cA av H xs vs
 | .dtt ks xs,a=>∃vs,H a=some (.dT (ks.zip vs))/\ks.length=xs.length/\RepL cA av H xs vs
 |_,_=>False
structure ER(G:Cn)(ow:List Nat)(H0:Hp)(av:Addr->Prop)(A:Nat->Option Addr)(σ:St)(H:Hp)(δ:Env):Prop where
 same:Same H0 H
 avd:∀a,av a->H0 a≠none
 fr:∀i a,A i=some a->H0 a=none
 inj:∀i j a,A i=some a->A j=some a->i=j
 live:∀i a,A i=some a->H a≠none
 dom:∀i,A i≠none->i∈ow
 dom':∀i∈ow,A i≠none
 len:σ.length=δ.length
 pin:∀i a,G.2 i=some (.inl a)->A i=some a
 kept:∀i v,G.2 i=some (.inr v)->σ[i]? = some (some v)
 var:∀(i:Nat)(d:D),δ[i]? = some (some d)->∃v,σ[i]? = some (some v)/\(A i=none->Rep G.1 (AV av A) H d v)/\(∀a,A i=some a->v = .ref a/\Own G.1 (AV av A) H d a)
inductive Ql where
 |cl|tp|dt
def RepQ(cA:Kn)(av:Addr->Prop)(A:Nat->Option Addr)(H:Hp):Ql->D->V->Prop
 | .cl,d,v=>RepT cA (AV av A) (AV av A) H d v
 | .tp,d,v=>RepT cA av (AV av A) H d v
 | .dt,d,v=>RepT cA av av H d v
def Ql.it:Ql->Ql
 | .dt => .dt
 |_ => .cl
section
variable{cA:Kn}{G:Cn}{ow:List Nat}{H0 H H':Hp}{av:Addr->Prop}{A:Nat->Option Addr}{σ:St}{δ:Env}
theorem AV.l{a:Addr}(h:av a):AV av A a := .inl h
def Ql.iv(q:Ql)(av:Addr->Prop)(A:Nat->Option Addr):Addr->Prop:=match q with
 | .dt=>av
 |_=>AV av A
theorem RepQ.tp{q:Ql}{d:D}{v:V}(h:RepQ cA av A H q d v):RepT cA av (q.iv av A) H d v:=by
 cases q with
 |cl=>exact h.weak (λa => .inl) λa z=>z
 |tp=>exact h
 |dt=>exact h
theorem RepQ.any{q:Ql}{d:D}{v:V}(h:RepQ cA av A H q d v):Rep cA av H d v:=by
 cases q with
 |cl=>exact(h.weak (λa => .inl) λa => .inl).r
 |tp=>exact(h.weak (λa z=>z) λa => .inl).r
 |dt=>exact h.r
theorem RepQ.same{q:Ql}{d:D}{v:V}(k:Same H H')(h:RepQ cA av A H q d v):RepQ cA av A H' q d v:=by
 cases q<;>exact RepT.same k h
theorem ER.mono(E:ER G ow H0 av A σ H δ)(k:Same H H'):ER G ow H0 av A σ H' δ:=by
 refine⟨E.same.trans k,E.avd,E.fr,E.inj,λi a e => ?_,E.dom,E.dom',E.len,E.pin,E.kept,λi d e => ?_⟩
 · have:=E.live i a e
   cases q:H a with
   |none=>exact absurd q this
   |some o=>rw [k a o q];exact λz=>by cases z
 · obtain⟨v,h1,h2,h3⟩:=E.var i d e
   refine⟨v,h1,λz=>(h2 z).same k,λa z=>⟨(h3 a z).1,?_⟩⟩;have:=(h3 a z).2;cases d with
   |lst xs=>obtain⟨vs,q1,q2⟩:=this;exact⟨vs,k _ _ q1,q2.same k⟩
   |obj c ks xs=>obtain⟨dx,vs,q1,q0,q2⟩:=this;exact⟨dx,vs,k _ _ q1,q0,q2.same k⟩
   |dct ks xs=>obtain⟨vs,q1,q0,q2⟩:=this;exact⟨vs,k _ _ q1,q0,q2.same k⟩
   |dtt ks xs=>obtain⟨vs,q1,q0,q2⟩:=this;exact⟨vs,k _ _ q1,q0,q2.same k⟩
   |_=>exact this
theorem ER.avl(E:ER G ow H0 av A σ H δ):∀a,AV av A a->H a≠none:=λa h=>by
 rcases h with h|⟨i,h⟩
 · have:=E.avd a h
   cases q:H0 a with
   |none=>exact absurd q this
   |some o=>rw [E.same a o q];exact λz=>by cases z
 · exact E.live i a h
theorem ER.avH(E:ER G ow H0 av A σ H δ):∀a,av a->H a≠none:=λa h=>E.avl a (.inl h)
end
def VE(G:Cn)(ow:List Nat)(te:TE)(q:Ql)(ε:Env->Option D):Prop:=
 ∀H0 av A σ H δ,ER G ow H0 av A σ H δ->∀d,ε δ=some d->∀Q:VK,(∀v H',Same H H'->RepQ G.1 av A H' q d v->Q v H')->te σ H Q
def VF(G:Cn)(ow:List Nat)(te:TE)(ε:Env->Option D):Prop:=
 ∀H0 av A σ H δ,ER G ow H0 av A σ H δ->∀d,ε δ=some d->∀Q:VK,(∀p vs xs H1,Same H H1->H1 p=none->RepL G.1 (AV av A) H1 xs vs->d = .lst xs->Q (.ref p) (upd H1 p (.lst vs)))->te σ H Q
def VT(G:Cn)(ow:List Nat)(tt:TT)(τ:Env->Option Bool):Prop:=
 ∀H0 av A σ H δ,ER G ow H0 av A σ H δ->∀b,τ δ=some b->∀Q:Bool->Hp->Prop,(∀H',Same H H'->Q b H')->tt σ H Q
def RepQL(cA:Kn)(av:Addr->Prop)(A:Nat->Option Addr)(H:Hp)(q:Ql):List D->List V->Prop
 | [],vs=>vs=[]
 |x::xs,vs=>∃v r,vs=v::r/\RepQ cA av A H q x v/\RepQL cA av A H q xs r
def VA(G:Cn)(ow:List Nat)(ta:TA)(q:Ql)(α:Env->Option (List D)):Prop:=
 ∀H0 av A σ H δ,ER G ow H0 av A σ H δ->∀ds,α δ=some ds->∀Q:List V->Hp->Prop,(∀vs H',Same H H'->RepQL G.1 av A H' q ds vs->Q vs H')->ta σ H Q
section
variable{cA:Kn}{G:Cn}{ow:List Nat}
theorem RepQL.same{av:Addr->Prop}{A:Nat->Option Addr}{H H':Hp}{q:Ql}(k:Same H H'):∀{xs:List D}{vs:List V},RepQL cA av A H q xs vs->RepQL cA av A H' q xs vs
 | [],_,h=>h
 |x::xs,vs,h=>by
  obtain⟨v,r,e,h1,h2⟩:=h;exact⟨v,r,e,h1.same k,RepQL.same k h2⟩
theorem RepQL.cl{av:Addr->Prop}{A:Nat->Option Addr}{H:Hp}:∀{xs:List D}{vs:List V},RepQL cA av A H .cl xs vs->RepL cA (AV av A) H xs vs
 | [],_,h=>by unfold RepL;exact h
 |x::xs,vs,h=>by
  obtain⟨v,r,e,h1,h2⟩:=h;subst e;exact .cons (RepT.r h1) (RepQL.cl h2)
theorem RepQL.any{av:Addr->Prop}{A:Nat->Option Addr}{H:Hp}{q:Ql}:∀{xs:List D}{vs:List V},RepQL cA av A H q xs vs->RepL cA av H xs vs
 | [],_,h=>by unfold RepL;exact h
 |x::xs,vs,h=>by
  obtain⟨v,r,e,h1,h2⟩:=h;subst e;exact .cons h1.any (RepQL.any h2)
theorem VE.dt{te:TE}{q:Ql}{ε:Env->Option D}(h:VE G ow te q ε):VE G ow te .dt ε:=λH0 av A σ H δ E d e Q k=>
 h H0 av A σ H δ E d e Q λv H' s r=>k v H' s r.any.t
theorem ZU{H:Hp}{p:Addr}{o:HO}(h:H p=none):Same H (upd H p o):=Zff h
theorem VF.cl{te:TE}{ε:Env->Option D}(h:VF G ow te ε):VE G ow te .cl ε:=λH0 av A σ H δ E d e Q k=>
 h H0 av A σ H δ E d e Q λp vs xs H1 s hp l hd=>by
  subst hd;refine k _ _ (s.trans (ZU hp)) ⟨p,vs,rfl,λz=>((E.mono s).avl p z hp).elim,SqL.of ZN,l.same (ZU hp)⟩
def Ub(ε:Env->Option D)(δ:Env):Option D:=match ε δ with
 |some d=>if ZA d then some d else none
 |none=>none
theorem VE.scal{te:TE}{q:Ql}{ε:Env->Option D}(h:VE G ow te q ε):VE G ow te .cl (Ub ε):=λH0 av A σ H δ E d e Q k=>by
 unfold Ub at e;cases he:ε δ with
 |none=>rw [he]at e;cases e
 |some d'=>
  rw [he]at e
  by_cases hs:ZA d'=true
  · have e':d'=d:=by simpa [hs]using e
    subst e';exact h H0 av A σ H δ E d' he Q λv H' s r=>k v H' s (Rep.scal hs r.any).t
  · simp [hs]at e
def Za(i:Nat)(δ:Env):Option D:=match δ[i]? with
 |some (some d)=>some d
 |_=>none
theorem Xa{i:Nat}{δ:Env}{d:D}(h:Za i δ=some d):δ[i]? = some (some d):=by
 unfold Za at h;cases e:δ[i]? with
 |none=>rw [e]at h;cases h
 |some o=>
  rw [e]at h;cases o with
  |none=>cases h
  |some x=>exact congrArg (some∘some) (Option.some.inj h)
theorem Zc(i:Nat)(hi:(ow.contains i)=false:=by rfl):VE G ow (Yy i) .cl (Za i):=λH0 av A σ H δ E d e Q k=>by
 obtain⟨v,h1,h2,_⟩:=E.var i d (Xa e)
 have hn:A i=none:=by
  cases q:A i with
  |none=>rfl
  |some a=>
   have:=E.dom i (by rw [q];exact λz=>by cases z);simp at hi;exact absurd this hi
 exact⟨v,h1,k v H (Same.refl H) (h2 hn).t⟩
theorem Zgb(i:Nat)(hi:(ow.contains i)=true):VE G ow (Yy i) .tp (Za i):=λH0 av A σ H δ E d e Q k=>by
 obtain⟨v,h1,_,h3⟩:=E.var i d (Xa e);have hi':i∈ow:=by simpa using hi
 cases q:A i with
 |none=>exact absurd q (E.dom' i hi')
 |some a=>
  obtain⟨rfl,o⟩:=h3 a q;have na:¬av a:=λz=>E.avd a z (E.fr i a q)
  refine⟨_,h1,k _ H (Same.refl H) ?_⟩;cases d with
  |lst xs=>obtain⟨vs,q1,q2⟩:=o;exact⟨a,vs,rfl,λz=>(na z).elim,SqL.of q1,q2⟩
  |obj c ks xs=>obtain⟨dx,vs,q1,q0,q2⟩:=o;exact⟨a,dx,vs,rfl,na,q1,q0,q2⟩
  |dct ks xs=>obtain⟨vs,q1,q0,q2⟩:=o;exact⟨a,vs,rfl,na,q1,q0,q2⟩
  |dtt ks xs=>obtain⟨vs,q1,q0,q2⟩:=o;exact⟨a,vs,rfl,na,q1,q0,q2⟩
  |_=>exact False.elim o
def eC(d:D)(_:Env):Option D:=some d
theorem Zo{v:V}{d:D}(hs:ZA d=true)(hv:v=val d):VE G ow (tC v) .cl (eC d):=λH0 av A σ H δ E d' e Q k=>by
 have e':d=d':=Option.some.inj e;subst e' hv;exact k _ H (Same.refl H) (Rep.of_val hs).t
def Xk(cA:Kn)(r:R2)(f:D->D->Option D):Prop:=
 ∀(t t' i:Addr->Prop)(H:Hp)(x y:D)(vx vy:V)(d:D),(∀a,i a->H a≠none)->RepT cA t i H x vx->RepT cA t' i H y vy->f x y=some d->∀Q:VK,(∀v H',Same H H'->Rep cA i H' d v->Q v H')->r vx vy H Q
def eOp(f:D->D->Option D)(a b:Env->Option D)(δ:Env):Option D:=match a δ with
 |some x=>match b δ with
  |some y=>f x y
  |none=>none
 |none=>none
theorem QR{f:D->D->Option D}{a b:Env->Option D}{δ:Env}{d:D}(h:eOp f a b δ=some d):∃x y,a δ=some x/\b δ=some y/\f x y=some d:=by
 unfold eOp at h;cases ea:a δ with
 |none=>rw [ea]at h;cases h
 |some x=>
  rw [ea]at h;cases eb:b δ with
  |none=>rw [eb]at h;cases h
  |some y=>rw [eb]at h;exact⟨x,y,rfl,rfl,h⟩
def Ql.jn:Ql->Ql->Ql
 | .dt,_ => .dt
 |_,.dt => .dt
 |_,_ => .cl
theorem Zh{r:R2}{f:D->D->Option D}{ta tb:TE}{qa qb:Ql}{a b:Env->Option D}(hr:Xk G.1 r f)(ha:VE G ow ta qa a)(hb:VE G ow tb qb b):VE G ow (tOp r ta tb) (qa.jn qb) (eOp f a b):=λH0 av A σ H δ E d e Q k=>by
 obtain⟨x,y,ex,ey,ed⟩:=QR e;refine ha H0 av A σ H δ E x ex _ λvx H1 s1 r1=>hb H0 av A σ H1 δ (E.mono s1) y ey _ λvy H2 s2 r2 => ?_
 have E2:=(E.mono s1).mono s2;have r1':=(r1.same s2).tp;have r2':=r2.tp;have key:∀i:Addr->Prop,(∀a,i a->H2 a≠none)->RepT G.1 av i H2 x vx->RepT G.1 av i H2 y vy->(∀v H',Same H2 H'->Rep G.1 i H' d v->Q v H')->r vx vy H2 Q:=λi hi h1 h2 h3=>hr av av i H2 x y vx vy d hi h1 h2 ed Q h3
 have toav:∀{dd:D}{v:V},RepT G.1 av (AV av A) H2 dd v->RepT G.1 av av H2 dd v:=λh=>h.weak (λa z=>z) λa => .inl
 cases qa with
 |dt=>
  refine key av E2.avH r1' ?_ λv H' s3 r3=>k v H' ((s1.trans s2).trans s3) r3.t
  cases qb with
  |dt=>exact r2'
  |cl=>exact toav r2'
  |tp=>exact toav r2'
 |cl=>
  cases qb with
  |dt=>exact key av E2.avH (toav r1') r2' λv H' s3 r3=>k v H' ((s1.trans s2).trans s3) r3.t
  |cl=>exact key _ E2.avl r1' r2' λv H' s3 r3=>k v H' ((s1.trans s2).trans s3) r3.t
  |tp=>exact key _ E2.avl r1' r2' λv H' s3 r3=>k v H' ((s1.trans s2).trans s3) r3.t
 |tp=>
  cases qb with
  |dt=>exact key av E2.avH (toav r1') r2' λv H' s3 r3=>k v H' ((s1.trans s2).trans s3) r3.t
  |cl=>exact key _ E2.avl r1' r2' λv H' s3 r3=>k v H' ((s1.trans s2).trans s3) r3.t
  |tp=>exact key _ E2.avl r1' r2' λv H' s3 r3=>k v H' ((s1.trans s2).trans s3) r3.t
end
end DL
namespace DL
open PySem PySem.Spec L2
mutual
def toP:D->PyData
 | .non => .none
 | .bl b => .bool b
 | .int i => .int i
 | .str cs => .str (tx cs)
 | .lst xs => .list (Yi xs)
 | .tup xs => .tuple (Yi xs)
 | .obj _ _ _ => .dict []
 | .dct _ _ => .dict []
 | .dtt _ _ => .dict []
def Yi:List D->List PyData
 | []=>[]
 |x::xs=>toP x::Yi xs
end
section
variable{X:Cx}{cA:Kn}
mutual
theorem Qm{pins:List (Addr×Obj)}{σ:L2.St}{H:Hp}{s:Shared}{av:Addr->Prop}(hK:cA.K=X.K)(I:Inv X pins σ H s):∀(d:D)(v:V)(u:Value),PyData.canLay0 (toP d)=true->Rep cA av H d v->RelV v u->∃as,Reads s.heap u (toP d) as
 | .non,v,u,_,h,r=>by
  cases(show v = .non from h);cases r;exact⟨_,.none⟩
 | .bl b,v,u,_,h,r=>by
  cases(show v = .bl b from h);cases r;exact⟨_,.bool b⟩
 | .int i,v,u,_,h,r=>by
  cases(show v = .int i from h);obtain⟨t,rfl⟩:=r;exact⟨_,.int i t⟩
 | .str cs,v,u,_,h,r=>by
  cases(show v=S cs from h);obtain⟨t,rfl⟩:=r;exact⟨_,.str _ t⟩
 | .lst xs,v,u,c,h,r=>by
  unfold Rep at h;obtain⟨a,vs,rfl,_,rd,l⟩:=h;cases r;obtain⟨its,rv,⟨ob,n,e,hc,hd,hs⟩,z⟩:=I.list (show SqL X.K H a vs from hK▸rd);obtain⟨as,ra⟩:=Zas hK I xs vs its (by unfold toP PyData.canLay0 at c;exact c) l rv;unfold toP;exact⟨_,.list e hc hs (by simpa using ra)⟩
 | .tup xs,v,u,c,h,r=>by
  unfold Rep at h;obtain⟨a,vs,rfl,_,rd,l⟩:=h;cases r;obtain⟨z,its,rv,ob,e,hc,⟨n,hd⟩,_⟩:=(show ObjOk X.prog X.w H s.heap a (.tup vs)from I.hok a _ rd)
  obtain⟨as,ra⟩:=Zas hK I xs vs its (by unfold toP PyData.canLay0 at c;exact c) l rv;unfold toP;exact⟨_,.tuple e hc hd (by simpa using ra)⟩
 | .obj c' ks xs,v,u,c,h,r=>by
  unfold toP PyData.canLay0 at c;cases c
 | .dct ks xs,v,u,c,h,r=>by
  unfold toP PyData.canLay0 at c;cases c
 | .dtt ks xs,v,u,c,h,r=>by
  unfold toP PyData.canLay0 at c;cases c
theorem Zas{pins:List (Addr×Obj)}{σ:L2.St}{H:Hp}{s:Shared}{av:Addr->Prop}(hK:cA.K=X.K)(I:Inv X pins σ H s):∀(xs:List D)(vs:List V)(us:List Value),PyData.canLayAll0 (Yi xs)=true->RepL cA av H xs vs->Vals vs us->∃as,ReadsAll s.heap us (Yi xs) as
 | [],vs,us,_,h,r=>by
  rw [h.nil_of]at r;cases r;exact⟨_,.nil⟩
 |x::xs,vs,us,c,h,r=>by
  obtain⟨v,rr,rfl,h1,h2⟩:=h.uncons;cases r with
  |cons r1 r2=>
   unfold Yi PyData.canLayAll0 at c;rw [Bool.and_eq_true]at c;obtain⟨a1,q1⟩:=Qm hK I x v _ c.1 h1 r1;obtain⟨a2,q2⟩:=Zas hK I xs rr _ c.2 h2 r2;unfold Yi;exact⟨_,.cons q1 q2⟩
end
end
def eqD(x y:D):Option D:=
 if ZA x&&ZA y&&scal (val x) (val y)then some (.bl (decide (val x=val y)))
 else if SeqAt.shaped (toP x)&&SeqAt.shaped (toP y)then some (.bl (PyData.eqv (toP x) (toP y)))else none
def neD(x y:D):Option D:=match eqD x y with
 |some (.bl b)=>some (.bl (!b))
 |_=>none
def QS(cA:Kn)(neg:Bool):R2:=λx y H Q=>∃av av' dx dy b,Rep cA av H dx x/\Rep cA av' H dy y/\eqD dx dy=some (.bl b)/\Q (.bl (neg != b)) H
section
variable{X:Cx}{cA:Kn}
theorem Uc(hu:X.A.units+64<cLine)(hK:cA.K=X.K:=by rfl):OpR X (compareOp .Eq) (QS cA false):=by
 intro pins s σ H x y v u Q I rx ry h;obtain⟨av,av',dx,dy,b,hx,hy,e,q⟩:=h;unfold eqD at e
 by_cases h1:(ZA dx&&ZA dy&&scal (val dx) (val dy))=true
 · rw [if_pos h1]at e
   simp only [Bool.and_eq_true]at h1;obtain⟨⟨s1,s2⟩,s3⟩:=h1;have e1:=hx.val s1;have e2:=hy.val s2;subst e1 e2;have e':decide (val dx=val dy)=b:=by simpa using e
   exact ZjT pins s σ H _ _ v u Q I rx ry ⟨s3,by rw [e'];simpa using q⟩
 · rw [if_neg h1]at e
   by_cases h2:(SeqAt.shaped (toP dx)&&SeqAt.shaped (toP dy))=true
   · rw [if_pos h2]at e
     rw [Bool.and_eq_true]at h2;obtain⟨as,ra⟩:=Qm hK I dx x v (SeqAt.canLay_of_shaped h2.1) hx rx;obtain⟨bs,rb⟩:=Qm hK I dy y u (SeqAt.canLay_of_shaped h2.2) hy ry;have e':PyData.eqv (toP dx) (toP dy)=b:=by simpa using e
     exact PyProof.Rows.eq_dataH ra rb h2.1 h2.2 hu (by rw [e'];exact⟨.bl b,H,I,rfl,by simpa using q⟩)
   · rw [if_neg h2]at e
     cases e
theorem XZ(hu:X.A.units+64<cLine)(hK:cA.K=X.K:=by rfl):OpR X (compareOp .NotEq) (QS cA true):=by
 intro pins s σ H x y v u Q I rx ry h;obtain⟨av,av',dx,dy,b,hx,hy,e,q⟩:=h;unfold eqD at e
 by_cases h1:(ZA dx&&ZA dy&&scal (val dx) (val dy))=true
 · rw [if_pos h1]at e
   simp only [Bool.and_eq_true]at h1;obtain⟨⟨s1,s2⟩,s3⟩:=h1;have e1:=hx.val s1;have e2:=hy.val s2;subst e1 e2;have e':decide (val dx=val dy)=b:=by simpa using e
   exact ZjU pins s σ H _ _ v u Q I rx ry ⟨s3,by rw [e'];simpa using q⟩
 · rw [if_neg h1]at e
   by_cases h2:(SeqAt.shaped (toP dx)&&SeqAt.shaped (toP dy))=true
   · rw [if_pos h2]at e
     rw [Bool.and_eq_true]at h2;obtain⟨as,ra⟩:=Qm hK I dx x v (SeqAt.canLay_of_shaped h2.1) hx rx;obtain⟨bs,rb⟩:=Qm hK I dy y u (SeqAt.canLay_of_shaped h2.2) hy ry;have e':PyData.eqv (toP dx) (toP dy)=b:=by simpa using e
     exact PyProof.Rows.ne_dataH ra rb h2.1 h2.2 hu (by rw [e'];exact⟨.bl (!b),H,I,rfl,by simpa using q⟩)
   · rw [if_neg h2]at e
     cases e
theorem RepT.av0{t i:Addr->Prop}{H:Hp}{d:D}{v:V}(h:RepT cA t i H d v):Rep cA (λ_=>False) H d v:=(h.weak (λ_ z=>z.elim) λ_ z=>z.elim).r
theorem Zgc{x y d:D}(h:eqD x y=some d):∃b,d = .bl b:=by
 unfold eqD at h
 split at h
 · exact⟨_,(Option.some.inj h).symm⟩
 · split at h
   · exact⟨_,(Option.some.inj h).symm⟩
   · cases h
theorem Ud:Xk cA (QS cA false) eqD:=λt t' i H x y vx vy d _ hx hy e Q k=>by
 obtain⟨b,rfl⟩:=Zgc e;exact⟨_,_,x,y,b,hx.av0,hy.av0,e,k _ H (Same.refl H) (by cases b<;>rfl)⟩
theorem X0:Xk cA (QS cA true) neD:=λt t' i H x y vx vy d _ hx hy e Q k=>by
 unfold neD at e;cases he:eqD x y with
 |none=>rw [he]at e;cases e
 |some z=>
  obtain⟨b,rfl⟩:=Zgc he;rw [he]at e;have e':D.bl (!b)=d:=Option.some.inj e;subst e';exact⟨_,_,x,y,b,hx.av0,hy.av0,he,k _ H (Same.refl H) (by cases b<;>rfl)⟩
def UT(x:List Nat)(n:Int):List Nat:=(List.replicate n.toNat x).flatten
theorem Zbo(x:List Nat):∀(k:Nat)(acc:Array Nat),(List.replicate k x.toArray).foldl (· ++ ·) acc=acc++(List.replicate k x).flatten.toArray
 |0,acc=>by simp
 |k+1,acc=>by
  rw [List.replicate_succ,List.replicate_succ,List.foldl_cons,Zbo x k,List.flatten_cons];simp
theorem Zi9(x:List Nat)(n:Int):Txt.mul (tx x) n=tx (UT x n):=by
 unfold Txt.mul UT
 by_cases h1:n<1
 · rw [if_pos h1]
   have:n.toNat=0:=by omega
   rw [this];rfl
 · rw [if_neg h1]
   by_cases h2:(n == 1||(tx x).length == 0)=true
   · rw [if_pos h2]
     rw [Bool.or_eq_true]at h2;rcases h2 with h2|h2
     · have:n=1:=by simpa using h2
       subst this;simp
     · have : x = [] := by
        have:(tx x).length=0:=by simpa using h2
        rw [Ve]at this;exact List.eq_nil_of_length_eq_zero this
       subst this;simp
   · rw [if_neg h2]
     have:=Zbo x n.toNat #[];rw [this];simp
def rMulS:R2:=λx y H Q=>∃a n,x=S a/\y = .int n/\(n<2 ^ 63 /\ -(2 ^ 63)<=n/\a.length*n.toNat<=sizeLine)/\Q (S (UT a n)) H
theorem op_mulS:OpR X (binaryOp .Mult) rMulS:=by
 intro pins s σ H x y v u Q I rx ry h;obtain⟨a,n,rfl,rfl,⟨h1,h2,h3⟩,q⟩:=h;obtain⟨t,rfl⟩:=rx;obtain⟨t',rfl⟩:=ry;refine SB.mul ⟨?_,λhn hc => ?_,λhn hc => ?_⟩ λt' k=>⟨S (UT a n),H,I.tok _,⟨_,by rw [Zi9]⟩,q⟩
 · have e1:decide (n < -(2 ^ 63:Int))=false:=decide_eq_false (by omega)
   have e2:decide (n ≥ 2 ^ 63)=false:=decide_eq_false (by omega);rw [e1,e2];rfl
 · rw [Ve]
   have hs:sizeLine=16777216:=sizeLine_eq;intro hgt
   have h5:(a.length:Int)*n<=16777216:=by
    have:(a.length:Int)*n=((a.length*n.toNat:Nat):Int):=by
     rw [Int.natCast_mul,Int.toNat_of_nonneg (by omega)]
    rw [this];omega
   have h6:(2 ^ 63-1) / n<(a.length:Int):=hgt
   have h7:(2 ^ 63-1:Int)<(a.length:Int)*n:=by
    have:=Int.lt_mul_of_ediv_lt (show(0:Int)<n by omega) h6;rw [Int.mul_comm];rw [Int.mul_comm]at this;exact this
   omega
 · rw [Ve]
   show decide (a.length*n.toNat>sizeLine)=false;exact decide_eq_false (by omega)
instance (i j:Int):Decidable (CMul i j):=by unfold CMul;infer_instance
instance (i j:Int):Decidable (Qf i j):=by unfold Qf;infer_instance
def addD:D->D->Option D
 | .int i,.int j=>some (.int (i+j))
 | .str a,.str b=>if a.length+b.length<=sizeLine then some (.str (a++b))else none
 |_,_=>none
def subD:D->D->Option D
 | .int i,.int j=>some (.int (i-j))
 |_,_=>none
def Zli:D->D->Option D
 | .int i,.int j=>if CMul i j then some (.int (i*j))else none
 | .str a,.int n=>if n<2 ^ 63 /\ -(2 ^ 63)<=n/\a.length*n.toNat<=sizeLine then some (.str (UT a n))else none
 |_,_=>none
def Zim:D->D->Option D
 | .int i,.int j=>if Qf i j then some (.int (i / j))else none
 |_,_=>none
def Zlj:D->D->Option D
 | .int i,.int j=>if 0<j then some (.int (i % j))else none
 |_,_=>none
def Yu(p:Int->Int->Bool):D->D->Option D
 | .int i,.int j=>some (.bl (p i j))
 |_,_=>none
theorem Zja:Xk cA Zj0 addD:=λt t' i H x y vx vy d _ hx hy e Q k=>by
 cases x<;>cases y<;>first|(cases e;done)|skip
 · cases(show vx=_ from hx);cases(show vy=_ from hy)
   cases e;exact .inl ⟨_,_,rfl,rfl,k _ H (Same.refl H) rfl⟩
 · cases(show vx=_ from hx);cases(show vy=_ from hy)
   rename_i a b;dsimp only [addD]at e
   by_cases hz:a.length+b.length<=sizeLine
   · rw [if_pos hz]at e
     cases e;exact .inr (.inl ⟨_,_,rfl,rfl,hz,k _ H (Same.refl H) rfl⟩)
   · rw [if_neg hz]at e;cases e
theorem QT:Xk cA (rI0 λi j => .int (i-j)) subD:=λt t' i H x y vx vy d _ hx hy e Q k=>by
 cases x<;>cases y<;>first|(cases e;done)|skip
 cases(show vx=_ from hx);cases(show vy=_ from hy);cases e;exact⟨_,_,rfl,rfl,k _ H (Same.refl H) rfl⟩
theorem Ue{p:Int->Int->Bool}:Xk cA (rI0 λi j => .bl (p i j)) (Yu p):=λt t' i H x y vx vy d _ hx hy e Q k=>by
 cases x<;>cases y<;>first|(cases e;done)|skip
 cases(show vx=_ from hx);cases(show vy=_ from hy);cases e;exact⟨_,_,rfl,rfl,k _ H (Same.refl H) rfl⟩
def inD(neg:Bool):D->D->Option D
 | .str [c],.str b=>some (.bl (neg != decide (c∈b)))
 |x,.lst ys=>if ZA x&&ys.all ZA then some (.bl (if neg then !(inV (val x) (ys.map val))else inV (val x) (ys.map val)))else none
 |x,.tup ys=>if ZA x&&ys.all ZA then some (.bl (if neg then !(inV (val x) (ys.map val))else inV (val x) (ys.map val)))else none
 |_,_=>none
theorem Za4{d:D}:ZA d=true->Vc (val d)=true:=by
 intro h;cases d<;>first|rfl|cases h
theorem Zat:∀{xs:List D},xs.all ZA=true->(xs.map val).all Vc=true
 | [],_=>rfl
 |x::xs,h=>by
  rw [List.all_cons,Bool.and_eq_true]at h;rw [List.map_cons,List.all_cons,Za4 h.1,Zat h.2];rfl
theorem Zhi{t i:Addr->Prop}{H:Hp}{d:D}{v:V}(hs:ZA d=true)(h:RepT cA t i H d v):v=val d:=by
 cases d<;>first|exact h|cases hs
theorem QU{neg:Bool}:Xk cA (UR cA.K neg) (inD neg):=λt t' i H x y vx vy d _ hx hy e Q k=>by
 have seq:∀ys,(y = .lst ys\/y = .tup ys)->(if ZA x&&ys.all ZA then some (D.bl (if neg then !(inV (val x) (ys.map val))else inV (val x) (ys.map val)))else none)=some d->UR cA.K neg vx vy H Q:=λys hy' e=>by
  by_cases hz:(ZA x&&ys.all ZA)=true
  · rw [if_pos hz]at e
    rw [Bool.and_eq_true]at hz;have ex:=Zhi hz.1 hx;subst ex;cases e;rcases hy' with rfl|rfl
    · obtain⟨a,vs,rfl,_,rd,l⟩:=hy
      have ev:=l.vals hz.2;subst ev;exact .inr ⟨a,_,rfl,.inl rd,Za4 hz.1,Zat hz.2,k _ H (Same.refl H) rfl⟩
    · obtain⟨a,vs,rfl,_,rd,l⟩:=hy
      have ev:=l.vals hz.2;subst ev;exact .inr ⟨a,_,rfl,.inr (SqT.of rd),Za4 hz.1,Zat hz.2,k _ H (Same.refl H) rfl⟩
  · rw [if_neg hz]at e;cases e
 cases y with
 |lst ys=>exact seq ys (.inl rfl) (by cases x<;>first|exact e|(rename_i cs;cases cs<;>first|exact e|(rename_i c r;cases r<;>exact e)))
 |tup ys=>exact seq ys (.inr rfl) (by cases x<;>first|exact e|(rename_i cs;cases cs<;>first|exact e|(rename_i c r;cases r<;>exact e)))
 |str b=>
  cases x with
  |str cs=>
   cases cs with
   |nil=>cases e
   |cons c r=>
    cases r with
    |cons _ _=>cases e
    |nil=>
     cases(show vx=_ from hx);cases(show vy=_ from hy);cases e;exact .inl ⟨c,b,rfl,rfl,k _ H (Same.refl H) rfl⟩
  |_=>cases e
 |_=>cases x<;>first|(cases e;done)|(rename_i cs;cases cs<;>first|(cases e;done)|(rename_i c r;cases r<;>cases e))
def ixD:D->D->Option D
 | .lst xs,.int i=>atI xs i
 | .tup xs,.int i=>atI xs i
 | .str cs,.int i=>if cs.length<=sizeLine then(atI cs i).map λc => .str [c]else none
 |_,_=>none
theorem ZdO{av:Addr->Prop}{H:Hp}{xs:List D}{vs:List V}{i:Int}{d:D}(l:RepL cA av H xs vs)(h:atI xs i=some d):∃v,atI vs i=some v/\Rep cA av H d v:=by
 unfold atI at h ⊢;rw [l.length]at h;cases e:ixN vs.length i with
 |none=>rw [e]at h;cases h
 |some j=>
  rw [e]at h;exact l.get h
theorem Zy:Xk cA (Uw cA.K) ixD:=λt t' i H x y vx vy d _ hx hy e Q k=>by
 cases y<;>first|(cases x<;>cases e;done)|skip
 rename_i j;cases(show vy=_ from hy);cases x<;>first|(cases e;done)|skip
 · cases(show vx=_ from hx)
   rename_i cs;dsimp only [ixD]at e
   by_cases hz:cs.length<=sizeLine
   · rw [if_pos hz]at e
     cases ea:atI cs j with
     |none=>rw [ea]at e;cases e
     |some c=>
      rw [ea]at e;cases e;exact .inr (.inr ⟨cs,j,c,rfl,rfl,hz,ea,k _ H (Same.refl H) rfl⟩)
   · rw [if_neg hz]at e;cases e
 · obtain⟨a,vs,rfl,_,rd,l⟩:=hx
   obtain⟨v,h1,h2⟩:=ZdO l e;exact .inl ⟨a,vs,j,v,rfl,rfl,rd,h1,k v H (Same.refl H) h2⟩
 · obtain⟨a,vs,rfl,_,rd,l⟩:=hx
   obtain⟨v,h1,h2⟩:=ZdO l e;exact .inr (.inl ⟨a,vs,j,v,rfl,rfl,SqT.of rd,h1,k v H (Same.refl H) h2⟩)
end
end DL
namespace DL
open PySem PySem.Spec L2
section
variable{cA:Kn}{G:Cn}{ow:List Nat}
def bD:Option D->Option Bool
 |some (.bl b)=>some b
 |_=>none
theorem ZdP{o:Option D}{b:Bool}(h:bD o=some b):o=some (.bl b):=by
 cases o with
 |none=>cases h
 |some d=>cases d<;>first|(cases h;rfl)|cases h
def xB(ε:Env->Option D)(δ:Env):Option Bool:=bD (ε δ)
theorem UU{te:TE}{q:Ql}{ε:Env->Option D}(h:VE G ow te q ε):VT G ow (tB te) (xB ε):=λH0 av A σ H δ E b e Q k=>
 h H0 av A σ H δ E _ (ZdP e) _ λv H' s r=>⟨b,by cases q<;>exact r,k H' s⟩
theorem Z8{te:TE}{q:Ql}{ε:Env->Option D}(h:VE G ow te q ε):VT G ow (Zid te) (xB ε):=λH0 av A σ H δ E b e Q k=>
 h H0 av A σ H δ E _ (ZdP e) _ λv H' s r=>⟨b,by cases q<;>exact r,k H' s⟩
def Vg(τ:Env->Option Bool)(δ:Env):Option Bool:=match τ δ with
 |some b=>some (!b)
 |none=>none
theorem Zgd{t:TT}{τ:Env->Option Bool}(h:VT G ow t τ):VT G ow (Zk6 t) (Vg τ):=λH0 av A σ H δ E b e Q k=>by
 unfold Vg at e;cases he:τ δ with
 |none=>rw [he]at e;cases e
 |some c=>
  rw [he]at e;cases e;exact h H0 av A σ H δ E c he _ λH' s=>k H' s
def YW(τ υ:Env->Option Bool)(δ:Env):Option Bool:=match τ δ with
 |some true=>υ δ
 |some false=>some false
 |none=>none
def xOr(τ υ:Env->Option Bool)(δ:Env):Option Bool:=match τ δ with
 |some true=>some true
 |some false=>υ δ
 |none=>none
theorem QV{t u:TT}{τ υ:Env->Option Bool}(h:VT G ow t τ)(h':VT G ow u υ):VT G ow (Zk5 t u) (YW τ υ):=λH0 av A σ H δ E b e Q k=>by
 unfold YW at e;cases he:τ δ with
 |none=>rw [he]at e;cases e
 |some c=>
  rw [he]at e;refine h H0 av A σ H δ E c he _ λH' s => ?_
  cases c with
  |true=>exact XY (h' H0 av A σ H' δ (E.mono s) b e _ λH2 s2=>k H2 (s.trans s2))
  |false=>cases e;exact XX (k H' s)
theorem QW{t u:TT}{τ υ:Env->Option Bool}(h:VT G ow t τ)(h':VT G ow u υ):VT G ow (tOr t u) (xOr τ υ):=λH0 av A σ H δ E b e Q k=>by
 unfold xOr at e;cases he:τ δ with
 |none=>rw [he]at e;cases e
 |some c=>
  rw [he]at e;refine h H0 av A σ H δ E c he _ λH' s => ?_
  cases c with
  |true=>cases e;exact XY (k H' s)
  |false=>exact XX (h' H0 av A σ H' δ (E.mono s) b e _ λH2 s2=>k H2 (s.trans s2))
theorem YR:VT G ow tYes (λ_=>some true):=λH0 av A σ H δ E b e Q k=>by
 cases e;exact k H (Same.refl H)
theorem blq{av:Addr->Prop}{A:Nat->Option Addr}{H:Hp}{q:Ql}{b:Bool}:RepQ cA av A H q (.bl b) (.bl b):=by cases q<;>exact rfl
theorem qbl{av:Addr->Prop}{A:Nat->Option Addr}{H:Hp}{q:Ql}{b:Bool}{v:V}(h:RepQ cA av A H q (.bl b) v):v = .bl b:=by cases q<;>exact h
def Vh(a b:Env->Option D)(δ:Env):Option D:=match a δ with
 |some (.bl true)=>b δ
 |some (.bl false)=>some (.bl false)
 |_=>none
def eOr(a b:Env->Option D)(δ:Env):Option D:=match a δ with
 |some (.bl true)=>some (.bl true)
 |some (.bl false)=>b δ
 |_=>none
def Zlk(a:Env->Option D)(δ:Env):Option D:=match a δ with
 |some (.bl b)=>some (.bl (!b))
 |_=>none
theorem Zge{ta tb:TE}{qa qb:Ql}{a b:Env->Option D}(ha:VE G ow ta qa a)(hb:VE G ow tb qb b):VE G ow (Zia ta tb) qb (Vh a b):=λH0 av A σ H δ E d e Q k=>by
 unfold Vh at e;cases he:a δ with
 |none=>rw [he]at e;cases e
 |some x=>
  rw [he]at e;cases x<;>first|(cases e;done)|skip
  rename_i c;refine ha H0 av A σ H δ E _ he _ λv H' s r=>⟨c,qbl r,?_⟩
  cases c with
  |true=>exact XY (hb H0 av A σ H' δ (E.mono s) d e _ λv2 H2 s2 r2=>k v2 H2 (s.trans s2) r2)
  |false=>cases e;exact XX (k _ H' s blq)
def eIf(τ:Env->Option Bool)(a b:Env->Option D)(δ:Env):Option D:=match τ δ with
 |some true=>a δ
 |some false=>b δ
 |none=>none
theorem Zj7{t:TT}{ta tb:TE}{q:Ql}{τ:Env->Option Bool}{a b:Env->Option D}(ht:VT G ow t τ)(ha:VE G ow ta q a)(hb:VE G ow tb q b):VE G ow (tIf t ta tb) q (eIf τ a b):=λH0 av A σ H δ E d e Q k=>by
 unfold eIf at e;cases he:τ δ with
 |none=>rw [he]at e;cases e
 |some c=>
  rw [he]at e;refine ht H0 av A σ H δ E c he _ λH' s => ?_
  cases c with
  |true=>exact XY (ha H0 av A σ H' δ (E.mono s) d e _ λv H2 s2 r=>k v H2 (s.trans s2) r)
  |false=>exact XX (hb H0 av A σ H' δ (E.mono s) d e _ λv H2 s2 r=>k v H2 (s.trans s2) r)
def Qn:D->Bool
 | .non=>true
 |_=>false
theorem Zhj{av:Addr->Prop}{H:Hp}{d:D}{v:V}(h:Rep cA av H d v):decide (v = .non)=Qn d:=by
 cases d with
 |non=>cases(show v=_ from h);rfl
 |bl b=>cases(show v=_ from h);rfl
 |int i=>cases(show v=_ from h);rfl
 |str cs=>cases(show v=_ from h);rfl
 |lst xs=>unfold Rep at h;obtain⟨a,vs,rfl,_⟩:=h;rfl
 |tup xs=>unfold Rep at h;obtain⟨a,vs,rfl,_⟩:=h;rfl
 |obj c ks xs=>unfold Rep at h;obtain⟨a,dx,vs,rfl,_⟩:=h;rfl
 |dct ks xs=>unfold Rep at h;obtain⟨a,vs,rfl,_⟩:=h;rfl
 |dtt ks xs=>unfold Rep at h;obtain⟨a,vs,rfl,_⟩:=h;rfl
def UV(a:Env->Option D)(δ:Env):Option D:=match a δ with
 |some d=>some (.bl (Qn d))
 |none=>none
def Zin(a:Env->Option D)(δ:Env):Option D:=match a δ with
 |some d=>some (.bl (!Qn d))
 |none=>none
theorem Zjb{ta:TE}{qa:Ql}{a:Env->Option D}(ha:VE G ow ta qa a):VE G ow (Zk4 ta) .cl (UV a):=λH0 av A σ H δ E d e Q k=>by
 unfold UV at e;cases he:a δ with
 |none=>rw [he]at e;cases e
 |some x=>
  rw [he]at e;cases e;refine ha H0 av A σ H δ E _ he _ λv H' s r => ?_
  rw [Zhj r.any];exact k _ H' s blq
def Zgf(f g:D->D->Option D)(a b c:Env->Option D)(δ:Env):Option D:=match eOp f a b δ with
 |some (.bl true)=>eOp g b c δ
 |some (.bl false)=>some (.bl false)
 |_=>none
def Uf:D->Option D
 | .int i=>some (.int (-i))
 |_=>none
def eUn(f:D->Option D)(a:Env->Option D)(δ:Env):Option D:=match a δ with
 |some x=>f x
 |none=>none
theorem Zgg{ta:TE}{qa:Ql}{a:Env->Option D}(ha:VE G ow ta qa a):VE G ow (tUn (rU λi => .int (-i)) ta) .cl (eUn Uf a):=λH0 av A σ H δ E d e Q k=>by
 unfold eUn at e;cases he:a δ with
 |none=>rw [he]at e;cases e
 |some x=>
  rw [he]at e;cases x<;>first|(cases e;done)|skip
  cases e;refine ha H0 av A σ H δ E _ he _ λv H' s r => ?_
  have e1:=r.any;exact⟨_,e1,k _ H' s rfl⟩
def eNil(_:Env):Option (List D):=some []
def Zb(a:Env->Option D)(r:Env->Option (List D))(δ:Env):Option (List D):=match a δ with
 |some x=>match r δ with
  |some xs=>some (x::xs)
  |none=>none
 |none=>none
theorem Zk{q:Ql}:VA G ow tNil q eNil:=λH0 av A σ H δ E ds e Q k=>by
 cases e;exact k [] H (Same.refl H) rfl
theorem Ze{te:TE}{ta:TA}{q:Ql}{a:Env->Option D}{r:Env->Option (List D)}(ha:VE G ow te q a)(hr:VA G ow ta q r):VA G ow (XV te ta) q (Zb a r):=λH0 av A σ H δ E ds e Q k=>by
 unfold Zb at e;cases he:a δ with
 |none=>rw [he]at e;cases e
 |some x=>
  rw [he]at e;cases hr':r δ with
  |none=>rw [hr']at e;cases e
  |some xs=>
   rw [hr']at e;cases e;exact ha H0 av A σ H δ E x he _ λv H1 s1 r1=>hr H0 av A σ H1 δ (E.mono s1) xs hr' _ λvs H2 s2 r2=>k _ H2 (s1.trans s2) ⟨v,vs,rfl,r1.same s2,r2⟩
theorem RepQL.length{av:Addr->Prop}{A:Nat->Option Addr}{H:Hp}{q:Ql}{xs:List D}{vs:List V}(h:RepQL cA av A H q xs vs):xs.length=vs.length:=h.any.length
def ZS(α:Env->Option (List D))(δ:Env):Option D:=match α δ with
 |some xs=>if xs.length<=sizeLine then some (.lst xs)else none
 |none=>none
theorem Xb{t:TA}{α:Env->Option (List D)}(h:VA G ow t .cl α):VF G ow (J5 t) (ZS α):=λH0 av A σ H δ E d e Q k=>by
 unfold ZS at e;cases he:α δ with
 |none=>rw [he]at e;cases e
 |some xs=>
  rw [he]at e
  by_cases hz:xs.length<=sizeLine
  · have e':D.lst xs=d:=by simpa [hz]using e
    exact h H0 av A σ H δ E xs he _ λvs H1 s1 r1=>⟨by rw [<-r1.length];exact hz,λp hp=>k p vs xs H1 s1 hp r1.cl e'.symm⟩
  · simp [hz]at e
def Yl(α:Env->Option (List D))(δ:Env):Option D:=match α δ with
 |some xs=>if xs.length<=sizeLine then some (.tup xs)else none
 |none=>none
theorem Vy{t:TA}{α:Env->Option (List D)}(h:VA G ow t .cl α):VE G ow (Zlc t) .cl (Yl α):=λH0 av A σ H δ E d e Q k=>by
 unfold Yl at e;cases he:α δ with
 |none=>rw [he]at e;cases e
 |some xs=>
  rw [he]at e
  by_cases hz:xs.length<=sizeLine
  · have e':D.tup xs=d:=by simpa [hz]using e
    subst e';refine h H0 av A σ H δ E xs he _ λvs H1 s1 r1=>⟨by rw [<-r1.length];exact hz,λp hp=>k _ _ (s1.trans (ZU hp)) ⟨p,vs,rfl,λz=>(E.mono s1).avl p z hp,ZN,r1.cl.same (ZU hp)⟩⟩
  · simp [hz]at e
def Ux(cA:Kn)(i:Addr->Prop)(H:Hp):List D->List V->Prop
 | [],vs=>vs=[]
 |x::xs,vs=>∃v r,vs=v::r/\(∃t,RepT cA t i H x v)/\Ux cA i H xs r
theorem RepQL.il{av:Addr->Prop}{A:Nat->Option Addr}{H:Hp}{q:Ql}:∀{xs:List D}{vs:List V},RepQL cA av A H q xs vs->Ux cA (q.iv av A) H xs vs
 | [],_,h=>h
 |x::xs,vs,h=>by
  obtain⟨v,r,e,h1,h2⟩:=h;exact⟨v,r,e,⟨_,h1.tp⟩,RepQL.il h2⟩
def X1(cA:Kn)(r:List V->Hp->VK->Prop)(f:List D->Option D):Prop:=
 ∀(i:Addr->Prop)(H:Hp)(ds:List D)(vs:List V)(d:D),(∀a,i a->H a≠none)->Ux cA i H ds vs->f ds=some d->∀Q:VK,(∀v H',Same H H'->Rep cA i H' d v->Q v H')->r vs H Q
def eCB(f:List D->Option D)(α:Env->Option (List D))(δ:Env):Option D:=match α δ with
 |some ds=>f ds
 |none=>none
theorem ZZ{r:List V->Hp->VK->Prop}{f:List D->Option D}{t:TA}{q:Ql}{α:Env->Option (List D)}(hr:X1 G.1 r f)(h:VA G ow t q α):VE G ow (tCB r t) q.it (eCB f α):=λH0 av A σ H δ E d e Q k=>by
 unfold eCB at e;cases he:α δ with
 |none=>rw [he]at e;cases e
 |some ds=>
  rw [he]at e;refine h H0 av A σ H δ E ds he _ λvs H1 s1 r1 => ?_
  have E1:=E.mono s1;cases q with
  |cl=>exact hr _ H1 ds vs d E1.avl r1.il e _ λv H' s r=>k v H' (s1.trans s) r.t
  |tp=>exact hr _ H1 ds vs d E1.avl r1.il e _ λv H' s r=>k v H' (s1.trans s) r.t
  |dt=>exact hr _ H1 ds vs d E1.avH r1.il e _ λv H' s r=>k v H' (s1.trans s) r.t
theorem il1{i:Addr->Prop}{H:Hp}{x:D}{vs:List V}(h:Ux cA i H [x] vs):∃v t,vs=[v]/\RepT cA t i H x v:=by
 obtain⟨v,r,rfl,⟨t,h1⟩,h2⟩:=h;cases(show r=[]from h2);exact⟨v,t,rfl,h1⟩
def lenD:List D->Option D
 | [.str a]=>if a.length<=sizeLine then some (.int a.length)else none
 | [.lst xs]=>some (.int xs.length)
 | [.tup xs]=>some (.int xs.length)
 |_=>none
theorem YB:X1 cA (ZgL cA.K) lenD:=λi H ds vs d _ h e Q k=>by
 cases ds with
 |nil=>cases e
 |cons x r=>
  cases r with
  |cons _ _=>cases x<;>cases e
  |nil=>
   obtain⟨v,t,rfl,hx⟩:=il1 h;cases x<;>first|(cases e;done)|skip
   · rename_i a
     dsimp only [lenD]at e
     by_cases hz:a.length<=sizeLine
     · rw [if_pos hz]at e
       cases e;exact .inl ⟨a,by rw [show v=S a from hx],hz,k _ H (Same.refl H) rfl⟩
     · rw [if_neg hz]at e;cases e
   · obtain⟨a,ws,rfl,_,rd,l⟩:=hx
     cases e;exact .inr ⟨a,ws,rfl,.inl rd,k _ H (Same.refl H) (by rw [l.length];rfl)⟩
   · obtain⟨a,ws,rfl,_,rd,l⟩:=hx
     cases e;exact .inr ⟨a,ws,rfl,.inr (SqT.of rd),k _ H (Same.refl H) (by rw [l.length];rfl)⟩
def Zll:List D->Option D
 | [.int i,.int j]=>some (.int (if j<i then j else i))
 |_=>none
def Zlm:List D->Option D
 | [.int i,.int j]=>some (.int (if j>i then j else i))
 |_=>none
def Ug:List D->Option (List Bool)
 | []=>some []
 | .bl b::r=>match Ug r with
  |some bs=>some (b::bs)
  |none=>none
 |_=>none
theorem Zct:∀{xs:List D}{bs:List Bool},Ug xs=some bs->xs=bs.map D.bl
 | [],bs,h=>by cases h;rfl
 |x::xs,bs,h=>by
  cases x<;>first|(cases h;done)|skip
  rename_i b;unfold Ug at h;cases hr:Ug xs with
  |none=>rw [hr]at h;cases h
  |some cs=>
   rw [hr]at h;cases h;rw [List.map_cons,Zct hr]
def Qo(f:List Bool->Bool):List D->Option D
 | [.lst xs]=>match Ug xs with
  |some bs=>some (.bl (f bs))
  |none=>none
 |_=>none
theorem Zjc{f:List Bool->Bool}:X1 cA (ZgM cA.K f) (Qo f):=λi H ds vs d _ h e Q k=>by
 unfold Qo at e
 split at e
 · rename_i xs
   cases hb:Ug xs with
   |none=>rw [hb]at e;cases e
   |some bs=>
    rw [hb]at e;cases e;obtain⟨v,t,rfl,a,ws,rfl,_,rd,l⟩:=il1 h;have ex:=Zct hb;subst ex;have ev:=l.vals (by rw [List.all_map];exact List.all_eq_true.mpr λ_ _=>rfl);rw [List.map_map]at ev;subst ev;exact⟨a,bs,rfl,rd,k _ H (Same.refl H) rfl⟩
 · cases e
def ZO:List D->Option D
 | [.lst xs]=>some (.tup xs)
 | [.tup xs]=>some (.tup xs)
 |_=>none
def Zio:List D->Option D
 | [.lst xs]=>some (.lst xs)
 | [.tup xs]=>some (.lst xs)
 |_=>none
theorem Xl{t:TA}{α:Env->Option (List D)}(h:VA G ow t .cl α):VE G ow (tCB (Zga G.1.K) t) .cl (eCB ZO α):=λH0 av A σ H δ E d e Q k=>by
 unfold eCB at e;cases he:α δ with
 |none=>rw [he]at e;cases e
 |some ds=>
  rw [he]at e;refine h H0 av A σ H δ E ds he _ λvs H1 s1 r1 => ?_
  have E1:=E.mono s1;have e:ZO ds=some d:=e;unfold ZO at e
  split at e
  · rename_i xs
    cases e;obtain⟨v,r,rfl,⟨a,ws,rfl,_,rd,l⟩,h2⟩:=r1;cases(show r=[]from h2);exact⟨a,ws,rfl,.inl ⟨rd,λp hp=>k _ _ (s1.trans (ZU hp)) ⟨p,ws,rfl,λz=>E1.avl p z hp,ZN,l.same (ZU hp)⟩⟩⟩
  · rename_i xs
    cases e;obtain⟨v,r,rfl,⟨a,ws,rfl,na,rd,l⟩,h2⟩:=r1;cases(show r=[]from h2);exact⟨a,ws,rfl,.inr ⟨SqT.of rd,k _ H1 s1 ⟨a,ws,rfl,na,rd,l⟩⟩⟩
  · cases e
end
end DL
namespace DL
open PySem PySem.Spec L2
inductive Out where
 |nx (δ:Env)
 |rt (d:D)
 |bk (δ:Env)
 |ct (δ:Env)
def Zip(G:Cn)(owN owB owC:List Nat)(H0:Hp)(av:Addr->Prop)(De:Ends):Out->Prop
 | .nx δ'=>∀A' σ' H',ER G owN H0 av A' σ' H' δ'->De.nx σ' H'
 | .rt d=>∀v H',Same H0 H'->Rep G.1 av H' d v->De.rt v H'
 | .bk δ'=>∀A' σ' H',ER G owB H0 av A' σ' H' δ'->De.bk σ' H'
 | .ct δ'=>∀A' σ' H',ER G owC H0 av A' σ' H' δ'->De.ct σ' H'
def VS(G:Cn)(ow owN owB owC:List Nat)(ts:TS)(φ:Env->Option Out):Prop:=
 ∀H0 av A σ H δ,ER G ow H0 av A σ H δ->∀o,φ δ=some o->∀De:Ends,Zip G owN owB owC H0 av De o->ts De σ H
def VG(G:Cn)(ow ow':List Nat)(g:TG)(γ:D->Env->Option Env):Prop:=
 ∀H0 av A σ H δ,ER G ow H0 av A σ H δ->∀d v,Rep G.1 (AV av A) H d v->∀δ',γ d δ=some δ'->∀Q:L2.St->Hp->Prop,(∀A' σ' H',Same H H'->ER G ow' H0 av A' σ' H' δ'->Q σ' H')->g v σ H Q
def sub(a b:List Nat):Bool:=a.all λx=>b.contains x
theorem QX{a b:List Nat}(h:sub a b=true):∀x∈a,x∈b:=λx hx=>by
 have:=List.all_eq_true.mp h x hx;simpa using this
section
variable{cA:Kn}{G:Cn}{ow owN owB owC ow1 ow2:List Nat}{H0 H H':Hp}{av:Addr->Prop}{A:Nat->Option Addr}{σ:L2.St}{δ:Env}
theorem QY{α:Type}{l:List (Option α)}{i j:Nat}{x y:α}(h:(l.set i (some x))[j]? = some (some y)):(j=i/\y=x/\i<l.length)\/(j≠i/\l[j]? = some (some y)):=by
 by_cases e:j=i
 · subst e
   by_cases hl:j<l.length
   · rw [List.getElem?_set_self hl]at h
     exact .inl ⟨rfl,(Option.some.inj (Option.some.inj h)).symm,hl⟩
   · rw [List.getElem?_eq_none (by simpa using hl)]at h
     cases h
 · rw [List.getElem?_set_ne (Ne.symm e)]at h
   exact .inr ⟨e,h⟩
theorem ER.set{i:Nat}{d:D}{v:V}(E:ER G ow H0 av A σ H δ)(h:Rep G.1 (AV av A) H d v)(hw:∀j,j∈ow1 ↔ j∈ow/\j≠i)(hn:G.2 i=none) :
 ER G ow1 H0 av (λj=>if j=i then none else A j) (σ.set i (some v)) H (δ.set i (some d)):=by
 have less:∀b,AV av (λj=>if j=i then none else A j) b->AV av A b:=λb z=>by
  rcases z with z|⟨j,z⟩
  · exact .inl z
  · by_cases e:j=i
    · simp [e]at z
    · simp [e]at z;exact .inr ⟨j,z⟩
 refine⟨E.same,E.avd,λj a e => ?_,λj k a e1 e2 => ?_,λj a e => ?_,λj e => ?_,λj hj => ?_,by simp [E.len],λj a e=>(by
  have q:j≠i:=λz=>by rw [z,hn]at e;cases e
  simp only [q,if_false];exact E.pin j a e),(λj v' e=>by
  have q:j≠i:=λz=>by rw [z,hn]at e;cases e
  rw [List.getElem?_set_ne (Ne.symm q)];exact E.kept j v' e),λj d' e => ?_⟩
 · by_cases q:j=i
   · simp [q]at e
   · simp [q]at e;exact E.fr j a e
 · by_cases q:j=i
   · simp [q]at e1
   · by_cases q2:k=i
     · simp [q2]at e2
     · simp [q]at e1;simp [q2]at e2;exact E.inj j k a e1 e2
 · by_cases q:j=i
   · simp [q]at e
   · simp [q]at e;exact E.live j a e
 · by_cases q:j=i
   · simp [q]at e
   · simp [q]at e;exact(hw j).mpr ⟨E.dom j e,q⟩
 · obtain⟨h1,h2⟩:=(hw j).mp hj
   simp [h2];exact E.dom' j h1
 · rcases QY e with⟨rfl,rfl,hl⟩|⟨q,e'⟩
   · refine⟨v,?_,λ_=>h.av λb z => .inl (less b z),λa z=>by simp at z⟩
     rw [List.getElem?_set_self (by rw [E.len];exact hl)]
   · obtain⟨v',h1,h2,h3⟩:=E.var j d' e'
     refine⟨v',by rw [List.getElem?_set_ne (Ne.symm q)];exact h1,λz => ?_,λa z => ?_⟩
     · simp [q]at z
       exact(h2 z).av λb z => .inl (less b z)
     · simp [q]at z
       obtain⟨r1,r2⟩:=h3 a z;refine⟨r1,?_⟩;cases d' with
       |lst xs=>obtain⟨vs,q1,q2⟩:=r2;exact⟨vs,q1,q2.av λb z => .inl (less b z)⟩
       |obj c ks xs=>obtain⟨dx,vs,q1,q0,q2⟩:=r2;exact⟨dx,vs,q1,q0,q2.av λb z => .inl (less b z)⟩
       |dct ks xs=>obtain⟨vs,q1,q0,q2⟩:=r2;exact⟨vs,q1,q0,q2.av λb z => .inl (less b z)⟩
       |dtt ks xs=>obtain⟨vs,q1,q0,q2⟩:=r2;exact⟨vs,q1,q0,q2.av λb z => .inl (less b z)⟩
       |_=>exact r2
theorem ER.own{i:Nat}{xs:List D}{vs:List V}{p:Addr}(E:ER G ow H0 av A σ H δ)(hp:H p=none)(l:RepL G.1 (AV av A) H xs vs)(hw:∀j,j∈ow1 ↔ j∈ow\/j=i)(hn:G.2 i=none) :
 ER G ow1 H0 av (λj=>if j=i then some p else A j) (σ.set i (some (.ref p))) (upd H p (.lst vs)) (δ.set i (some (.lst xs))):=by
 have hs:Same H (upd H p (.lst vs)):=ZU hp
 have less:∀b,AV av (λj=>if j=i then some p else A j) b->AV av A b\/H b=none:=λb z=>by
  rcases z with z|⟨j,z⟩
  · exact .inl (.inl z)
  · by_cases e:j=i
    · simp [e]at z;subst z;exact .inr hp
    · simp [e]at z;exact .inl (.inr ⟨j,z⟩)
 have np:∀j a,A j=some a->a≠p:=λj a e z=>by subst z;exact E.live j a e hp
 have h0:H0 p=none:=by
  cases q:H0 p with
  |none=>rfl
  |some o=>rw [E.same p o q]at hp;cases hp
 refine⟨E.same.trans hs,E.avd,λj a e => ?_,λj k a e1 e2 => ?_,λj a e => ?_,λj e => ?_,λj hj => ?_,by simp [E.len],λj a e=>(by
  have q:j≠i:=λz=>by rw [z,hn]at e;cases e
  simp only [q,if_false];exact E.pin j a e),(λj v' e=>by
  have q:j≠i:=λz=>by rw [z,hn]at e;cases e
  rw [List.getElem?_set_ne (Ne.symm q)];exact E.kept j v' e),λj d' e => ?_⟩
 · by_cases q:j=i
   · simp [q]at e;subst e;exact h0
   · simp [q]at e;exact E.fr j a e
 · by_cases q:j=i
   · by_cases q2:k=i
     · rw [q,q2]
     · simp [q]at e1;simp [q2]at e2
       exact absurd e1.symm (np k a e2)
   · by_cases q2:k=i
     · simp [q]at e1;simp [q2]at e2
       exact absurd e2.symm (np j a e1)
     · simp [q]at e1;simp [q2]at e2;exact E.inj j k a e1 e2
 · by_cases q:j=i
   · simp [q]at e;subst e;rw [ZN];exact λz=>by cases z
   · simp [q]at e
     rw [ZI (np j a e)];exact E.live j a e
 · by_cases q:j=i
   · exact(hw j).mpr (.inr q)
   · simp [q]at e;exact(hw j).mpr (.inl (E.dom j e))
 · by_cases q:j=i
   · simp [q]
   · simp [q]
     exact E.dom' j (((hw j).mp hj).resolve_right q)
 · rcases QY e with⟨rfl,rfl,hl⟩|⟨q,e'⟩
   · refine⟨.ref p,?_,λz=>by simp at z,λa z => ?_⟩
     · rw [List.getElem?_set_self (by rw [E.len];exact hl)]
     · simp at z
       subst z;exact⟨rfl,vs,ZN,(l.av less).same hs⟩
   · obtain⟨v',h1,h2,h3⟩:=E.var j d' e'
     refine⟨v',by rw [List.getElem?_set_ne (Ne.symm q)];exact h1,λz => ?_,λa z => ?_⟩
     · simp [q]at z
       exact((h2 z).av less).same hs
     · simp [q]at z
       obtain⟨r1,r2⟩:=h3 a z;refine⟨r1,?_⟩;cases d' with
       |lst xs=>obtain⟨vs',q1,q2⟩:=r2;exact⟨vs',hs _ _ q1,(q2.av less).same hs⟩
       |obj c ks xs=>obtain⟨dx,vs',q1,q0,q2⟩:=r2;exact⟨dx,vs',hs _ _ q1,q0,(q2.av less).same hs⟩
       |dct ks xs=>obtain⟨vs',q1,q0,q2⟩:=r2;exact⟨vs',hs _ _ q1,q0,(q2.av less).same hs⟩
       |dtt ks xs=>obtain⟨vs',q1,q0,q2⟩:=r2;exact⟨vs',hs _ _ q1,q0,(q2.av less).same hs⟩
       |_=>exact r2
theorem ER.put{i:Nat}{a:Addr}{d d':D}(E:ER G ow H0 av A σ H δ)(hi:A i=some a)(hd:δ[i]? = some (some d))(hk:∀b o,b≠a->H b=some o->H' b=some o)(hl:H' a≠none)(ho:Own G.1 (AV av A) H' d' a) :
 ER G ow H0 av A σ H' (δ.set i (some d')):=by
 have kk:∀b o,¬AV av A b->H b=some o->H' b=some o:=λb o n e=>hk b o (λz=>n (.inr ⟨i,by rw [z];exact hi⟩)) e
 refine⟨λb o e=>hk b o (λz => ?_) (E.same b o e),E.avd,E.fr,E.inj,λj b e => ?_,E.dom,E.dom',by simp [E.len],E.pin,E.kept,λj d'' e => ?_⟩
 · rw [z,E.fr i a hi]at e;cases e
 · by_cases q:b=a
   · subst q;exact hl
   · have:=E.live j b e
     cases e':H b with
     |none=>exact absurd e' this
     |some o=>rw [hk b o q e'];exact λz=>by cases z
 · rcases QY e with⟨rfl,rfl,hl'⟩|⟨q,e'⟩
   · obtain⟨v,h1,_,h3⟩:=E.var j d hd
     obtain⟨r1,_⟩:=h3 a hi
     exact⟨v,h1,λz=>(by rw [hi]at z;cases z),λb z=>by
      rw [hi]at z;cases z;exact⟨r1,ho⟩⟩
   · obtain⟨v',h1,h2,h3⟩:=E.var j d'' e'
     refine⟨v',h1,λz=>(h2 z).ext kk,λb z => ?_⟩;obtain⟨r1,r2⟩:=h3 b z;have nb:b≠a:=λw=>q (E.inj j i a (by rw [<-w];exact z) hi)
     refine⟨r1,?_⟩;cases d'' with
     |lst xs=>obtain⟨vs,q1,q2⟩:=r2;exact⟨vs,hk _ _ nb q1,q2.ext kk⟩
     |obj c ks xs=>obtain⟨dx,vs,q1,q0,q2⟩:=r2;exact⟨dx,vs,hk _ _ nb q1,q0,q2.ext kk⟩
     |dct ks xs=>obtain⟨vs,q1,q0,q2⟩:=r2;exact⟨vs,hk _ _ nb q1,q0,q2.ext kk⟩
     |dtt ks xs=>obtain⟨vs,q1,q0,q2⟩:=r2;exact⟨vs,hk _ _ nb q1,q0,q2.ext kk⟩
     |_=>exact r2
theorem ER.freeze(i:Nat)(E:ER G ow H0 av A σ H δ)(hw:∀j,j∈ow1 ↔ j∈ow/\j≠i)(hn:G.2 i=none):ER G ow1 H0 av (λj=>if j=i then none else A j) σ H δ:=by
 have less:∀b,AV av (λj=>if j=i then none else A j) b->AV av A b:=λb z=>by
  rcases z with z|⟨j,z⟩
  · exact .inl z
  · by_cases e:j=i
    · simp [e]at z
    · simp [e]at z;exact .inr ⟨j,z⟩
 refine⟨E.same,E.avd,λj a e => ?_,λj k a e1 e2 => ?_,λj a e => ?_,λj e => ?_,λj hj => ?_,E.len,λj a e=>(by
  have q:j≠i:=λz=>by rw [z,hn]at e;cases e
  simp only [q,if_false];exact E.pin j a e),E.kept,λj d' e => ?_⟩
 · by_cases q:j=i
   · simp [q]at e
   · simp [q]at e;exact E.fr j a e
 · by_cases q:j=i
   · simp [q]at e1
   · by_cases q2:k=i
     · simp [q2]at e2
     · simp [q]at e1;simp [q2]at e2;exact E.inj j k a e1 e2
 · by_cases q:j=i
   · simp [q]at e
   · simp [q]at e;exact E.live j a e
 · by_cases q:j=i
   · simp [q]at e
   · simp [q]at e;exact(hw j).mpr ⟨E.dom j e,q⟩
 · obtain⟨h1,h2⟩:=(hw j).mp hj
   simp [h2];exact E.dom' j h1
 · obtain⟨v',h1,h2,h3⟩:=E.var j d' e
   refine⟨v',h1,λz => ?_,λa z => ?_⟩
   · by_cases q:j=i
     · subst q
       cases hA:A j with
       |none=>exact(h2 hA).av λb z => .inl (less b z)
       |some a=>
        obtain⟨rfl,r2⟩:=h3 a hA
        have na:¬AV av (λk=>if k=j then none else A k) a:=λz=>by
         rcases z with z|⟨k,z⟩
         · exact E.avd a z (E.fr j a hA)
         · by_cases qk:k=j
           · simp [qk]at z
           · simp [qk]at z;exact qk (E.inj k j a z hA)
        cases d' with
        |lst xs=>obtain⟨vs,q1,q2⟩:=r2;unfold Rep;exact⟨a,vs,rfl,λz=>(na z).elim,SqL.of q1,q2.av λb z => .inl (less b z)⟩
        |obj c ks xs=>obtain⟨dx,vs,q1,q0,q2⟩:=r2;unfold Rep;exact⟨a,dx,vs,rfl,na,q1,q0,q2.av λb z => .inl (less b z)⟩
        |dct ks xs=>obtain⟨vs,q1,q0,q2⟩:=r2;unfold Rep;exact⟨a,vs,rfl,na,q1,q0,q2.av λb z => .inl (less b z)⟩
        |dtt ks xs=>obtain⟨vs,q1,q0,q2⟩:=r2;unfold Rep;exact⟨a,vs,rfl,na,q1,q0,q2.av λb z => .inl (less b z)⟩
        |_=>exact False.elim r2
     · simp [q]at z
       exact(h2 z).av λb z => .inl (less b z)
   · by_cases q:j=i
     · simp [q]at z
     · simp [q]at z
       obtain⟨r1,r2⟩:=h3 a z;refine⟨r1,?_⟩;cases d' with
       |lst xs=>obtain⟨vs,q1,q2⟩:=r2;exact⟨vs,q1,q2.av λb z => .inl (less b z)⟩
       |obj c ks xs=>obtain⟨dx,vs,q1,q0,q2⟩:=r2;exact⟨dx,vs,q1,q0,q2.av λb z => .inl (less b z)⟩
       |dct ks xs=>obtain⟨vs,q1,q0,q2⟩:=r2;exact⟨vs,q1,q0,q2.av λb z => .inl (less b z)⟩
       |dtt ks xs=>obtain⟨vs,q1,q0,q2⟩:=r2;exact⟨vs,q1,q0,q2.av λb z => .inl (less b z)⟩
       |_=>exact r2
open Classical in
noncomputable def cut(A:Nat->Option Addr)(H:Hp):Hp:=λb=>if ∃i,A i=some b then none else H b
theorem QZ{b:Addr}{o:HO}(h:cut A H b=some o):H b=some o/\¬∃i,A i=some b:=by
 unfold cut at h
 by_cases e:∃i,A i=some b
 · rw [if_pos e]at h;cases h
 · rw [if_neg e]at h;exact⟨h,e⟩
theorem Vz{b:Addr}(e:¬∃i,A i=some b):cut A H b=H b:=by
 unfold cut;rw [if_neg e]
theorem ER.cut(E:ER G ow H0 av A σ H δ):ER G ow (DL.cut A H) av A σ H δ:=by
 refine⟨λb o e=>(QZ e).1,λa z => ?_,λi a e => ?_,E.inj,E.live,E.dom,E.dom',E.len,E.pin,E.kept,E.var⟩
 · rw [Vz λ⟨i,e⟩=>E.avd a z (E.fr i a e)]
   exact E.avH a z
 · unfold DL.cut
   rw [if_pos ⟨i,e⟩]
theorem ER.sub0(E:ER G ow H0 av A σ H δ):Same H0 (DL.cut A H):=λb o e=>by
 rw [Vz λ⟨i,z⟩=>by rw [E.fr i b z]at e;cases e];exact E.same b o e
theorem ER.uncut{A':Nat->Option Addr}{σ':L2.St}{δ':Env}(E:ER G ow H0 av A σ H δ)(E':ER G ow1 (DL.cut A H) av A' σ' H' δ'):ER G ow1 H0 av A' σ' H' δ':=
 ⟨E.sub0.trans E'.same,E.avd,λi a e=>E.sub0.free (E'.fr i a e),E'.inj,E'.live,E'.dom,E'.dom',E'.len,E'.pin,E'.kept,E'.var⟩
def sNext(δ:Env):Option Out:=some (.nx δ)
theorem YX:VS G ow ow owB owC tNext sNext:=λH0 av A σ H δ E o e De k=>by
 cases e;exact k A σ H E
def Zg(φ ψ:Env->Option Out)(δ:Env):Option Out:=match φ δ with
 |some (.nx δ')=>ψ δ'
 |r=>r
theorem Zz{t u:TS}{φ ψ:Env->Option Out}(h1:VS G ow ow1 owB owC t φ)(h2:VS G ow1 owN owB owC u ψ):VS G ow owN owB owC (V7 t u) (Zg φ ψ):=λH0 av A σ H δ E o e De k=>by
 unfold Zg at e;cases he:φ δ with
 |none=>rw [he]at e;cases e
 |some o1=>
  rw [he]at e;refine h1 H0 av A σ H δ E o1 he _ ?_;cases o1 with
  |nx δ'=>exact λA' σ' H' E'=>h2 H0 av A' σ' H' δ' E' o e De k
  |rt d=>cases e;exact k
  |bk δ'=>cases e;exact k
  |ct δ'=>cases e;exact k
def sIf(τ:Env->Option Bool)(φ ψ:Env->Option Out)(δ:Env):Option Out:=match τ δ with
 |some true=>φ δ
 |some false=>ψ δ
 |none=>none
theorem YY{c:TT}{t u:TS}{τ:Env->Option Bool}{φ ψ:Env->Option Out}(hc:VT G ow c τ)(h1:VS G ow owN owB owC t φ)(h2:VS G ow owN owB owC u ψ):VS G ow owN owB owC (JQ c t u) (sIf τ φ ψ):=λH0 av A σ H δ E o e De k=>by
 unfold sIf at e;cases he:τ δ with
 |none=>rw [he]at e;cases e
 |some b=>
  rw [he]at e;refine hc H0 av A σ H δ E b he _ λH' s => ?_
  cases b with
  |true=>exact XY (h1 H0 av A σ H' δ (E.mono s) o e De k)
  |false=>exact XX (h2 H0 av A σ H' δ (E.mono s) o e De k)
def ZE(ε:Env->Option D)(δ:Env):Option Out:=match ε δ with
 |some d=>some (.rt d)
 |none=>none
theorem Z4{te:TE}{q:Ql}{ε:Env->Option D}(h:VE G ow te q ε):VS G ow owN owB owC (JP te) (ZE ε):=λH0 av A σ H δ E o e De k=>by
 unfold ZE at e;cases he:ε δ with
 |none=>rw [he]at e;cases e
 |some d=>
  rw [he]at e;cases e;exact h H0 av A σ H δ E d he _ λv H' s r=>k v H' (E.same.trans s) r.any
def Ziq(_:Env):Option Out:=some (.rt .non)
def Zgh(_:Env):Option Out:=none
def Zl(i:Nat)(ε:Env->Option D)(δ:Env):Option Out:=match ε δ with
 |some d=>some (.nx (δ.set i (some d)))
 |none=>none
theorem Zau{i:Nat}(h1:sub ow1 ow=true)(h2:ow1.contains i=false)(h3:sub ow (i::ow1)=true):∀j,j∈ow1 ↔ j∈ow/\j≠i:=λj=>by
 constructor
 · intro h
   refine⟨QX h1 j h,λe => ?_⟩;subst e;have:j∉ow1:=by simpa using h2
   exact this h
 · rintro⟨h,n⟩
   rcases List.mem_cons.mp (QX h3 j h)with e|e
   · exact absurd e n
   · exact e
theorem Zcu{i:Nat}(h1:sub ow1 (i::ow)=true)(h2:ow1.contains i=true)(h3:sub ow ow1=true):∀j,j∈ow1 ↔ j∈ow\/j=i:=λj=>by
 constructor
 · intro h
   rcases List.mem_cons.mp (QX h1 j h)with e|e
   · exact .inr e
   · exact .inl e
 · rintro(h|rfl)
   · exact QX h3 j h
   · simpa using h2
theorem ZX{te:TE}{ε:Env->Option D}(i:Nat)(h:VE G ow te .cl ε)(hn:G.2 i=none:=by rfl)(h1:sub owN ow=true:=by rfl)(h2:owN.contains i=false:=by rfl)(h3:sub ow (i::owN)=true:=by rfl):VS G ow owN owB owC (XU te (YU i)) (Zl i ε):=λH0 av A σ H δ E o e De k=>by
 unfold Zl at e;cases he:ε δ with
 |none=>rw [he]at e;cases e
 |some d=>
  rw [he]at e;cases e;exact h H0 av A σ H δ E d he _ λv H' s r=>k _ _ H' ((E.mono s).set (RepT.r r) (Zau h1 h2 h3) hn)
theorem VB{te:TE}{ε:Env->Option D}(i:Nat)(h:VF G ow te ε)(hn:G.2 i=none:=by rfl)(h1:sub owN (i::ow)=true:=by rfl)(h2:owN.contains i=true:=by rfl)(h3:sub ow owN=true:=by rfl):VS G ow owN owB owC (XU te (YU i)) (Zl i ε):=λH0 av A σ H δ E o e De k=>by
 unfold Zl at e;cases he:ε δ with
 |none=>rw [he]at e;cases e
 |some d=>
  rw [he]at e;cases e;refine h H0 av A σ H δ E d he _ λp vs xs H1 s hp l hd => ?_
  subst hd;exact k _ _ _ ((E.mono s).own hp l (Zcu h1 h2 h3) hn)
def Zir(ε:Env->Option D)(δ:Env):Option Out:=match ε δ with
 |some _=>some (.nx δ)
 |none=>none
def Yr(i:Nat)(ε:Env->Option D)(δ:Env):Option Out:=match Za i δ with
 |some (.lst xs)=>match ε δ with
  |some d=>if xs.length<sizeLine then some (.nx (δ.set i (some (.lst (xs++[d])))))else none
  |none=>none
 |_=>none
theorem Uh{K:PySem.W.Frag}{te:TE}{ε:Env->Option D}(i:Nat)(hi:ow.contains i=true)(h:VE G ow te .cl ε):VS G ow ow owB owC (V8 (tBM K "list" rAppend (Yy i) (XV te tNil))) (Yr i ε):=λH0 av A σ H δ E o e De k=>by
 unfold Yr at e;cases hv:Za i δ with
 |none=>rw [hv]at e;cases e
 |some x=>
  rw [hv]at e;cases x<;>first|(cases e;done)|skip
  rename_i xs;dsimp only at e;cases he:ε δ with
  |none=>rw [he]at e;cases e
  |some d=>
   rw [he]at e;dsimp only at e
   by_cases hz:xs.length<sizeLine
   · rw [if_pos hz]at e
     cases e;have hi':i∈ow:=by simpa using hi
     cases hA:A i with
     |none=>exact absurd hA (E.dom' i hi')
     |some a=>
      obtain⟨v,h1,_,h3⟩:=E.var i _ (Xa hv);obtain⟨rfl,vs,q1,q2⟩:=h3 a hA;refine⟨_,h1,.inl ⟨rfl,vs,SqL.of q1⟩,h H0 av A σ H δ E d he _ λv H' s r => ?_⟩;have E':=E.mono s;have q1':=s _ _ q1;refine⟨a,vs,v,rfl,rfl,q1',by rw [<-q2.length];exact hz,k A σ _ (E'.put hA (Xa hv) (λb o hb e=>by rw [ZI hb];exact e) (by rw [ZN];exact λz=>by cases z) ⟨_,ZN,?_⟩)⟩
      have ex:∀b o,¬AV av A b->H' b=some o->upd H' a (.lst (vs++[v])) b=some o:=λb o n e=>by
       rw [ZI λz=>n (.inr ⟨i,by rw [z];exact hA⟩)];exact e
      exact((q2.same s).append (.cons (RepT.r r) .nil)).ext ex
   · rw [if_neg hz]at e;cases e
theorem VS.frz{t:TS}{φ:Env->Option Out}(i:Nat)(h:VS G ow1 owN owB owC t φ)(hn:G.2 i=none:=by rfl)(h1:sub ow1 ow=true:=by rfl)(h2:ow1.contains i=false:=by rfl)(h3:sub ow (i::ow1)=true:=by rfl):VS G ow owN owB owC t φ:=λH0 av A σ H δ E o e De k=>
 h H0 av _ σ H δ (E.freeze i (Zau h1 h2 h3) hn) o e De k
def Zm(i:Nat)(d:D)(δ:Env):Option Env:=some (δ.set i (some d))
theorem Z2(i:Nat)(hi:ow.contains i=false:=by rfl)(hn:G.2 i=none:=by rfl):VG G ow ow (YU i) (Zm i):=λH0 av A σ H δ E d v r δ' e Q k=>by
 cases e
 exact k _ _ H (Same.refl H) (E.set r (λj=>by
  have:i∉ow:=by simpa using hi
  exact⟨λh=>⟨h,λz=>this (z▸h)⟩,λh=>h.1⟩) hn)
def VGs(G:Cn)(ow ow':List Nat)(g:TGs)(γ:List D->Env->Option Env):Prop:=
 ∀H0 av A σ H δ,ER G ow H0 av A σ H δ->∀ds vs,RepL G.1 (AV av A) H ds vs->∀δ',γ ds δ=some δ'->∀Q:L2.St->Hp->Prop,(∀A' σ' H',Same H H'->(∀b,AV av A' b->AV av A b)->ER G ow' H0 av A' σ' H' δ'->Q σ' H')->g vs σ H Q
def gsNil(ds:List D)(δ:Env):Option Env:=match ds with
 | []=>some δ
 |_=>none
theorem UW:VGs G ow ow gNil gsNil:=λH0 av A σ H δ E ds vs r δ' e Q k=>by
 cases ds with
 |nil=>cases e;exact⟨r.nil_of,k A σ H (Same.refl H) (λ_ z=>z) E⟩
 |cons _ _=>cases e
def ZW(i:Nat)(γs:List D->Env->Option Env)(ds:List D)(δ:Env):Option Env:=match ds with
 |d::r=>γs r (δ.set i (some d))
 | []=>none
theorem Xc{gs:TGs}{γs:List D->Env->Option Env}(i:Nat)(hi:ow.contains i=false)(hn:G.2 i=none)(h:VGs G ow ow gs γs):VGs G ow ow (Zib (YU i) gs) (ZW i γs):=λH0 av A σ H δ E ds vs r δ' e Q k=>by
 cases ds with
 |nil=>cases e
 |cons d ds=>
  obtain⟨v,vr,rfl,r1,r2⟩:=r.uncons;refine⟨v,vr,rfl,?_⟩
  have less:∀b,AV av (λj=>if j=i then none else A j) b->AV av A b:=λb z=>by
   rcases z with z|⟨j,z⟩
   · exact .inl z
   · by_cases e:j=i
     · simp [e]at z
     · simp [e]at z;exact .inr ⟨j,z⟩
  have E1:ER G ow H0 av (λj=>if j=i then none else A j) (σ.set i (some v)) H (δ.set i (some d)):=E.set r1 (λj=>by
   have:i∉ow:=by simpa using hi
   exact⟨λh=>⟨h,λz=>this (z▸h)⟩,λh=>h.1⟩) hn
  exact h H0 av _ _ H _ E1 ds vr (r2.av λb z => .inl (less b z)) δ' e Q λA' σ' H' s l E'=>k A' σ' H' s (λb z=>less b (l b z)) E'
def Y4(n:Nat)(γs:List D->Env->Option Env)(d:D)(δ:Env):Option Env:=match d with
 | .tup ds=>if ds.length=n then γs ds δ else none
 |_=>none
theorem UX{K:PySem.W.Frag}{n:Nat}{gs:TGs}{γs:List D->Env->Option Env}(h:VGs G ow ow gs γs):VG G ow ow (JR K n gs) (Y4 n γs):=λH0 av A σ H δ E d v r δ' e Q k=>by
 cases d<;>first|(cases e;done)|skip
 rename_i ds;dsimp only [Y4]at e
 by_cases hz:ds.length=n
 · rw [if_pos hz]at e
   unfold Rep at r;obtain⟨a,vs,rfl,_,rd,l⟩:=r;exact⟨a,vs,rfl,SqT.of rd,by rw [<-l.length];exact hz,h H0 av A σ H δ E ds vs l δ' e Q λA' σ' H' s _ E'=>k A' σ' H' s E'⟩
 · rw [if_neg hz]at e;cases e
def VC(cA:Kn)(iv:Addr->Prop)(J:It)(xs:List D)(H0:Hp):Prop:=∀H,Same H0 H ->
 (∀i,i<xs.length->J.go i H) /\
 (∀(i:Nat)x v H',xs[i]? = some x->J.yld i H v H'->Same H H'/\∀av':Addr->Prop,(∀b,av' b->H b≠none)->(∀b,av' b->iv b\/H0 b=none)->Rep cA av' H' x v) /\
 (∀i,xs.length<=i->J.stop i H)
def VI(G:Cn)(ow:List Nat)(wi:TI)(ι:Env->Option (List D)):Prop:=
 ∀H0 av A σ H δ,ER G ow H0 av A σ H δ->∀xs,ι δ=some xs->∀R:It->Hp->Prop,(∀J H1,Same H H1->VC G.1 (AV av A) J xs (DL.cut A H1)->R J H1)->wi σ H R
def ZV(γ:D->Env->Option Env)(φ:Env->Option Out):List D->Env->Option Out
 | [],δ=>some (.nx δ)
 |x::r,δ=>match γ x δ with
  |none=>none
  |some δ1=>match φ δ1 with
   |none=>none
   |some (.nx δ2)=>ZV γ φ r δ2
   |some (.ct δ2)=>ZV γ φ r δ2
   |some (.bk δ2)=>some (.nx δ2)
   |some (.rt d)=>some (.rt d)
def Z5(ι:Env->Option (List D))(γ:D->Env->Option Env)(φ:Env->Option Out)(δ:Env):Option Out:=match ι δ with
 |some xs=>ZV γ φ xs δ
 |none=>none
theorem X2{wi:TI}{g:TG}{tb:TS}{ι:Env->Option (List D)}{γ:D->Env->Option Env}{φ:Env->Option Out}(hi:VI G ow wi ι)(hg:VG G ow ow g γ)(hb:VS G ow ow ow ow tb φ):VS G ow ow owB owC (Vu wi g tb) (Z5 ι γ φ):=λH0 av A σ H δ E o e De k=>by
 unfold Z5 at e;cases he:ι δ with
 |none=>rw [he]at e;cases e
 |some xs=>
  rw [he]at e;have e:ZV γ φ xs δ=some o:=e;refine hi H0 av A σ H δ E xs he _ λJ H1 s1 W => ?_
  have E1:=E.mono s1;refine⟨λi m σ' H'=>m=xs.length-i/\i<=xs.length/\∃A' δ',ER G ow (DL.cut A H1) av A' σ' H' δ'/\ZV γ φ (xs.drop i) δ'=some o,⟨xs.length,by simp,Nat.zero_le _,A,δ,E1.cut,e⟩,?_⟩
  rintro i m σ' H' ⟨rfl,hle,A',δ',E',e'⟩
  obtain⟨w1,w2,w3⟩:=W H' E'.same
  by_cases hlt:i<xs.length
  · refine .inr ⟨w1 i hlt,λσ2 H2=>∃A2 δ2,ER G ow (DL.cut A H1) av A2 σ2 H2 δ2/\ZV γ φ (xs.drop (i+1)) δ2=some o,λσ2 H2 ⟨A2,δ2,E2,e2⟩=>⟨xs.length-(i+1),by omega,rfl,hlt,A2,δ2,E2,e2⟩,λv H2 y => ?_⟩
    have hx:xs[i]? = some xs[i]:=List.getElem?_eq_getElem hlt;obtain⟨s2,rep⟩:=w2 i _ v H2 hx y;have E2:=E'.mono s2
    have rep':Rep G.1 (AV av A') H2 xs[i] v:=rep _ E'.avl λb z=>by
     rcases z with z|⟨j,z⟩
     · exact .inl (.inl z)
     · exact .inr (E'.fr j b z)
    rw [List.drop_eq_getElem_cons hlt]at e';unfold ZV at e';cases hγ:γ xs[i] δ' with
    |none=>rw [hγ]at e';cases e'
    |some δ1=>
     rw [hγ]at e';dsimp only at e';refine hg _ av A' σ' H2 δ' E2 _ v rep' δ1 hγ _ λA3 σ3 H3 s3 E3 => ?_
     cases hφ:φ δ1 with
     |none=>rw [hφ]at e';cases e'
     |some o1=>
      rw [hφ]at e';refine hb _ av A3 σ3 H3 δ1 E3 o1 hφ _ ?_;cases o1 with
      |nx δ2=>exact λA4 σ4 H4 E4=>⟨A4,δ2,E4,e'⟩
      |ct δ2=>exact λA4 σ4 H4 E4=>⟨A4,δ2,E4,e'⟩
      |bk δ2=>cases e';exact λA4 σ4 H4 E4=>k A4 σ4 H4 (E1.uncut E4)
      |rt d=>cases e';exact λv H4 s4 r4=>k v H4 (E1.sub0.trans s4) r4
  · have ei:i=xs.length:=by omega
    subst ei;rw [List.drop_length]at e';cases e';exact .inl ⟨w3 _ (Nat.le_refl _),k A' σ' H' (E1.uncut E')⟩
def YC(τ:Env->Option Bool)(φ:Env->Option Out):Nat->Env->Option Out
 |0,_=>none
 |n+1,δ=>match τ δ with
  |none=>none
  |some false=>some (.nx δ)
  |some true=>match φ δ with
   |none=>none
   |some (.nx δ2)=>YC τ φ n δ2
   |some (.ct δ2)=>YC τ φ n δ2
   |some (.bk δ2)=>some (.nx δ2)
   |some (.rt d)=>some (.rt d)
theorem Q1{τ:Env->Option Bool}{φ:Env->Option Out}:∀(n k:Nat)(δ:Env)(o:Out),YC τ φ n δ=some o->YC τ φ (n+k) δ=some o
 |0,_,_,_,h=>by cases h
 |n+1,k,δ,o,h=>by
  rw [Nat.add_right_comm];unfold YC at h ⊢;cases ht:τ δ with
  |none=>rw [ht]at h;cases h
  |some b=>
   rw [ht]at h;cases b with
   |false=>exact h
   |true=>
    dsimp only at h ⊢;cases hp:φ δ with
    |none=>rw [hp]at h;cases h
    |some o1=>
     rw [hp]at h;cases o1 with
     |nx δ2=>exact Q1 n k δ2 o h
     |ct δ2=>exact Q1 n k δ2 o h
     |bk δ2=>exact h
     |rt d=>exact h
open Classical in
noncomputable def X3(τ:Env->Option Bool)(φ:Env->Option Out)(δ:Env):Option Out:=if h:∃n o,YC τ φ n δ=some o then YC τ φ (Classical.choose h) δ else none
theorem ZeA{τ:Env->Option Bool}{φ:Env->Option Out}{δ:Env}{n:Nat}{o:Out}(h:YC τ φ n δ=some o):X3 τ φ δ=some o:=by
 have hx:∃n o,YC τ φ n δ=some o:=⟨n,o,h⟩
 unfold X3;rw [dif_pos hx];obtain⟨o',ho'⟩:=Classical.choose_spec hx;have h1:=Q1 _ n δ o' ho';have h2:=Q1 _ (Classical.choose hx) δ o h;rw [Nat.add_comm,h2]at h1;rw [ho',h1]
theorem ZaJ{τ:Env->Option Bool}{φ:Env->Option Out}{δ:Env}{o:Out}(h:X3 τ φ δ=some o):∃n,YC τ φ n δ=some o:=by
 unfold X3 at h
 split at h
 · exact⟨_,h⟩
 · cases h
theorem Zfi{c:TT}{tb:TS}{τ:Env->Option Bool}{φ:Env->Option Out}(hc:VT G ow c τ)(hb:VS G ow ow ow ow tb φ):VS G ow ow owB owC (JT c tb) (X3 τ φ):=λH0 av A σ H δ E o e De k=>by
 obtain⟨n,e⟩:=ZaJ e;refine⟨λm σ' H'=>∃A' δ',ER G ow H0 av A' σ' H' δ'/\YC τ φ m δ'=some o,⟨n,A,δ,E,e⟩,?_⟩
 rintro m σ' H' ⟨A',δ',E',e'⟩
 cases m with
 |zero=>cases e'
 |succ m=>
  unfold YC at e';cases ht:τ δ' with
  |none=>rw [ht]at e';cases e'
  |some b=>
   rw [ht]at e';refine hc H0 av A' σ' H' δ' E' b ht _ λH2 s2 => ?_
   have E2:=E'.mono s2;cases b with
   |false=>cases e';exact XX (k A' σ' H2 E2)
   |true=>
    dsimp only at e';refine XY ⟨λσ3 H3=>∃A3 δ3,ER G ow H0 av A3 σ3 H3 δ3/\YC τ φ m δ3=some o,λσ3 H3 ⟨A3,δ3,E3,e3⟩=>⟨m,Nat.lt_succ_self _,A3,δ3,E3,e3⟩,?_⟩;cases hφ:φ δ' with
    |none=>rw [hφ]at e';cases e'
    |some o1=>
     rw [hφ]at e';refine hb H0 av A' σ' H2 δ' E2 o1 hφ _ ?_;cases o1 with
     |nx δ2=>exact λA4 σ4 H4 E4=>⟨A4,δ2,E4,e'⟩
     |ct δ2=>exact λA4 σ4 H4 E4=>⟨A4,δ2,E4,e'⟩
     |bk δ2=>cases e';exact k
     |rt d=>cases e';exact k
end
end DL
namespace DL
open PySem PySem.Spec L2
section
variable{cA:Kn}{G:Cn}{ow owN owB owC:List Nat}
def ZH(ε:Env->Option D)(δ:Env):Option (List D):=match ε δ with
 |some (.lst xs)=>some xs
 |some (.tup xs)=>some xs
 |some (.str cs)=>some (cs.map λc => .str [c])
 |_=>none
theorem Rep.cut{av:Addr->Prop}{A:Nat->Option Addr}{H:Hp}{d:D}{v:V}(h:Rep cA (AV av A) H d v):Rep cA (AV av A) (DL.cut A H) d v:=h.ext λb o n e=>by
 rw [Vz λ⟨i,z⟩=>n (.inr ⟨i,z⟩)];exact e
theorem RepL.cut{av:Addr->Prop}{A:Nat->Option Addr}{H:Hp}{d:List D}{v:List V}(h:RepL cA (AV av A) H d v):RepL cA (AV av A) (DL.cut A H) d v:=h.ext λb o n e=>by
 rw [Vz λ⟨i,z⟩=>n (.inr ⟨i,z⟩)];exact e
theorem ZaU{iv:Addr->Prop}{H0:Hp}{a:Addr}{vs:List V}{xs:List D}(rd:SqL cA.K H0 a vs)(l:RepL cA iv H0 xs vs):VC cA iv (Itl cA.K a) xs H0:=λH s=>by
 have rd':SqL cA.K H a vs:=s.seq rd;refine⟨λi hi => ?_,λi x v H' hx y => ?_,λi hi=>⟨vs,rd',by rw [<-l.length];exact hi⟩⟩
 · obtain⟨v,hv,_⟩:=l.get (List.getElem?_eq_getElem hi)
   exact⟨vs,v,rd',hv⟩
 · obtain⟨rfl,hy⟩:=y
   obtain⟨v',hv,r⟩:=l.get hx;rw [hy vs rd']at hv;cases hv;exact⟨Same.refl _,λav' _ h2=>(r.av h2).same s⟩
theorem Zbp{K:PySem.W.Frag}{iv:Addr->Prop}{H0:Hp}{a:Addr}{vs:List V}{xs:List D}(rd:H0 a=some (.tup vs))(l:RepL cA iv H0 xs vs):VC cA iv (Itt K a) xs H0:=λH s=>by
 have rd':SqT K H a vs:=SqT.of (s _ _ rd);refine⟨λi hi => ?_,λi x v H' hx y => ?_,λi hi=>⟨vs,rd',by rw [<-l.length];exact hi⟩⟩
 · obtain⟨v,hv,_⟩:=l.get (List.getElem?_eq_getElem hi)
   exact⟨vs,v,rd',hv⟩
 · obtain⟨rfl,hy⟩:=y
   obtain⟨v',hv,r⟩:=l.get hx;rw [hy vs rd']at hv;cases hv;exact⟨Same.refl _,λav' _ h2=>(r.av h2).same s⟩
theorem Zbq{iv:Addr->Prop}{H0:Hp}{cs:List Nat}:VC cA iv (Its cs) (cs.map λc => .str [c]) H0:=λH s=>by
 refine⟨λi hi=>(show i<cs.length by simpa using hi),λi x v H' hx y => ?_,λi hi=>(show cs.length<=i by simpa using hi)⟩;obtain⟨rfl,c,hc,rfl⟩:=y;rw [List.getElem?_map,hc]at hx;cases hx;exact⟨Same.refl _,λ_ _ _=>rfl⟩
theorem YS{tl:TE}{ε:Env->Option D}(h:VE G ow tl .cl ε):VI G ow (Vx G.1.K tl) (ZH ε):=λH0 av A σ H δ E xs e R k=>by
 unfold ZH at e;cases he:ε δ with
 |none=>rw [he]at e;cases e
 |some d=>
  rw [he]at e;refine h H0 av A σ H δ E d he _ λv H1 s r => ?_
  cases d<;>first|(cases e;done)|skip
  · cases e
    exact .inr (.inr ⟨_,r,k _ H1 s Zbq⟩)
  · cases e
    obtain⟨a,vs,rfl,na,rd,l⟩:=r;exact .inl ⟨a,vs,rfl,rd,k _ H1 s (ZaU (Zdp na rd λb o n e=>by rw [Vz λ⟨i,z⟩=>n (.inr ⟨i,z⟩)];exact e) l.cut)⟩
  · cases e
    obtain⟨a,vs,rfl,na,rd,l⟩:=r;exact .inr (.inl ⟨a,vs,rfl,SqT.of rd,k _ H1 s (Zbp (by rw [Vz λ⟨i,z⟩=>na (.inr ⟨i,z⟩)];exact rd) l.cut)⟩)
def Z9(lo c:Int)(n:Nat):List D:=(List.range n).map λk => .int (lo+(k:Nat)*c)
theorem Q2{iv:Addr->Prop}{H0:Hp}{lo:Int}{n:Nat}:VC cA iv (Itr lo n) (Z9 lo 1 n) H0:=λH s=>by
 refine⟨λi hi=>(show i<n by simpa [Z9]using hi),λi x v H' hx y => ?_,λi hi=>(show n<=i by simpa [Z9]using hi)⟩;obtain⟨rfl,rfl⟩:=y;have hi:i<n:=by have:=(List.getElem?_eq_some_iff.mp hx).1;simpa [Z9]using this
 have:x = .int (lo+i):=by
  unfold Z9 at hx;rw [List.getElem?_map,List.getElem?_range hi]at hx;have:=Option.some.inj hx;rw [<-this];show D.int (lo+(i:Int)*1)=_;rw [Int.mul_one]
 subst this;exact⟨Same.refl _,λ_ _ _=>rfl⟩
theorem Zda{iv:Addr->Prop}{H0:Hp}{lo c:Int}{n:Nat}:VC cA iv (ZjN lo c n) (Z9 lo c n) H0:=λH s=>by
 refine⟨λi hi=>(show i<n by simpa [Z9]using hi),λi x v H' hx y => ?_,λi hi=>(show n<=i by simpa [Z9]using hi)⟩;obtain⟨rfl,rfl⟩:=y;have hi:i<n:=by have:=(List.getElem?_eq_some_iff.mp hx).1;simpa [Z9]using this
 have:x = .int (lo+i*c):=by
  unfold Z9 at hx;rw [List.getElem?_map,List.getElem?_range hi]at hx;exact(Option.some.inj hx).symm
 subst this;exact⟨Same.refl _,λ_ _ _=>rfl⟩
def ZL(α:Env->Option (List D))(δ:Env):Option (List D):=match α δ with
 |some [.int j]=>if -(2 ^ 62)<=j/\j<2 ^ 62 then some (Z9 0 1 j.toNat)else none
 |some [.int i,.int j]=>if -(2 ^ 62)<=i/\i<2 ^ 62 /\ -(2 ^ 62)<=j/\j<2 ^ 62 then some (Z9 i 1 (j-i).toNat)else none
 |some [.int i,.int j,.int c]=>if c≠0/\c.natAbs<1073741824/\Builtin.Range.small i j c=true then some (Z9 i c (Builtin.Range.rangeSize i j c).toNat)else none
 |_=>none
theorem ql1{av:Addr->Prop}{A:Nat->Option Addr}{H:Hp}{q:Ql}{x:Int}{vs:List V}(h:RepQL cA av A H q [.int x] vs):vs=[.int x]:=by
 obtain⟨v,r,rfl,h1,h2⟩:=h;have:=h1.any;cases(show v=_ from this);cases(show r=[]from h2);rfl
theorem ql2{av:Addr->Prop}{A:Nat->Option Addr}{H:Hp}{q:Ql}{x y:Int}{vs:List V}(h:RepQL cA av A H q [.int x,.int y] vs):vs=[.int x,.int y]:=by
 obtain⟨v,r,rfl,h1,h2⟩:=h;have:=h1.any;cases(show v=_ from this);rw [ql1 h2]
theorem XI{ta:TA}{q:Ql}{a:Env->Option (List D)}(h:VA G ow ta q a)(hl:∀δ ds,a δ=some ds->ds.length=1):VI G ow (JU ta) (ZL a):=λH0 av A σ H δ E xs e R k=>by
 unfold ZL at e;cases he:a δ with
 |none=>rw [he]at e;cases e
 |some ds=>
  rw [he]at e;refine h H0 av A σ H δ E ds he _ λvs H1 s r => ?_
  have hln:=hl δ ds he
  split at e
  · rename_i j he2
    cases he2
    by_cases hz : -(2 ^ 62)<=j/\j<2 ^ 62
    · rw [if_pos hz]at e
      cases e;exact⟨j,ql1 r,hz.1,hz.2,k _ H1 s Q2⟩
    · rw [if_neg hz]at e;cases e
  · rename_i he2;cases he2;simp at hln
  · rename_i he2;cases he2;simp at hln
  · cases e
theorem Zhk{ta:TA}{q:Ql}{a:Env->Option (List D)}(h:VA G ow ta q a)(hl:∀δ ds,a δ=some ds->ds.length=2):VI G ow (JV ta) (ZL a):=λH0 av A σ H δ E xs e R k=>by
 unfold ZL at e;cases he:a δ with
 |none=>rw [he]at e;cases e
 |some ds=>
  rw [he]at e;refine h H0 av A σ H δ E ds he _ λvs H1 s r => ?_
  have hln:=hl δ ds he
  split at e
  · rename_i he2;cases he2;simp at hln
  · rename_i i j he2
    cases he2
    by_cases hz : -(2 ^ 62)<=i/\i<2 ^ 62 /\ -(2 ^ 62)<=j/\j<2 ^ 62
    · rw [if_pos hz]at e
      cases e;exact⟨i,j,ql2 r,hz,k _ H1 s Q2⟩
    · rw [if_neg hz]at e;cases e
  · rename_i he2;cases he2;simp at hln
  · cases e
theorem Zhl{δ:Env}{ds:List D}(h:eNil δ=some ds):ds.length=0:=by cases h;rfl
theorem Zcv{a:Env->Option D}{r:Env->Option (List D)}{n:Nat}(hr:∀δ ds,r δ=some ds->ds.length=n):∀δ ds,Zb a r δ=some ds->ds.length=n+1:=λδ ds h=>by
 unfold Zb at h;cases ha:a δ with
 |none=>rw [ha]at h;cases h
 |some x=>
  rw [ha]at h;cases hr':r δ with
  |none=>rw [hr']at h;cases h
  |some xs=>rw [hr']at h;cases h;rw [List.length_cons,hr δ xs hr']
theorem Xm{a:Env->Option D}:∀δ ds,Zb a eNil δ=some ds->ds.length=1:=Zcv λ_ _=>Zhl
theorem Zln{a b:Env->Option D}:∀δ ds,Zb a (Zb b eNil) δ=some ds->ds.length=2:=Zcv Xm
def Yv(n:Nat)(δ:Env)(js:List Nat):Env:=List.replicate n none++js.map λj=>(δ[j]?).getD none
def Ym(γ:D->Env->Option Env)(τ:Env->Option Bool)(ε:Env->Option D)(δ0:Env):List D->Option (List D)
 | []=>some []
 |x::r=>match γ x δ0 with
  |none=>none
  |some δ1=>match τ δ1 with
   |none=>none
   |some false=>Ym γ τ ε δ0 r
   |some true=>match ε δ1 with
    |none=>none
    |some y=>match Ym γ τ ε δ0 r with
     |none=>none
     |some ys=>some (y::ys)
def ZC(ι:Env->Option (List D))(γ:D->Env->Option Env)(τ:Env->Option Bool)(ε:Env->Option D)(n:Nat)(js:List Nat)(δ:Env):Option D:=match ι δ with
 |none=>none
 |some xs=>match Ym γ τ ε (Yv n δ js) xs with
  |none=>none
  |some ys=>if ys.length<=sizeLine then some (.lst ys)else none
theorem ER.blk{H0 H:Hp}{av:Addr->Prop}{A:Nat->Option Addr}{σ:L2.St}{δ:Env}(n:Nat)(js:List Nat)(hjs:js.all (λj => !ow.contains j)=true)(E:ER G ow H0 av A σ H δ) :
 ER ⟨G.1,λ_=>none⟩ [] H (AV av A) (λ_=>none) (L2.blk n σ js) H (Yv n δ js):=by
 refine⟨Same.refl H,E.avl,λ_ _ z=>(by cases z),λ_ _ _ z=>(by cases z),λ_ _ z=>(by cases z),λ_ z=>absurd rfl z,λ_ z=>(by cases z),?_,λ_ _ z=>(by cases z),λ_ _ z=>(by cases z),λi d e => ?_⟩
 · unfold L2.blk Yv XG
   rw [List.length_append,List.length_append,List.length_replicate,List.length_replicate,List.length_map,List.length_map]
 · unfold Yv at e
   by_cases hi:i<n
   · rw [List.getElem?_append_left (by simpa using hi),List.getElem?_replicate,if_pos hi]at e
     cases e
   · rw [List.getElem?_append_right (by simpa using hi),List.length_replicate,List.getElem?_map]at e
     cases hj:js[i-n]? with
     |none=>rw [hj]at e;cases e
     |some j=>
      rw [hj]at e;have e':(δ[j]?).getD none=some d:=Option.some.inj e
      have e2:δ[j]? = some (some d):=by
       cases q:δ[j]? with
       |none=>rw [q]at e';cases e'
       |some z=>rw [q]at e';exact congrArg some e'
      obtain⟨v,h1,h2,_⟩:=E.var j d e2
      have hjo:A j=none:=by
       cases q:A j with
       |none=>rfl
       |some a=>
        have h3:=E.dom j (by rw [q];exact λz=>by cases z);have h4:=List.all_eq_true.mp hjs j (List.mem_of_getElem? hj);simp at h4;exact absurd h3 h4
      refine⟨v,?_,λ_=>(h2 hjo).av λb z => ?_,λ_ z=>(by cases z)⟩
      · unfold L2.blk XG
        rw [List.getElem?_append_right (by simpa using hi),List.length_replicate,List.getElem?_map,hj];show some ((σ[j]?).getD none)=_;rw [h1];rfl
      · rcases z with z|⟨_,z⟩
        · exact .inl z
        · cases z
theorem Yw {wi:TI} {g:TG} {tt:TT} {te:TE} {n:Nat} {js:List Nat} {ι:Env->Option (List D)} {γ:D->Env->Option Env} {τ:Env->Option Bool} {ε:Env->Option D}
 (hjs:js.all (λj => !ow.contains j)=true) (hi:VI G ow wi ι) (hg:VG ⟨G.1,λ_=>none⟩ [] [] g γ) (ht:VT ⟨G.1,λ_=>none⟩ [] tt τ) (he:VE ⟨G.1,λ_=>none⟩ [] te .cl ε):VF G ow (Qk wi g tt te n js) (ZC ι γ τ ε n js):=λH0 av A σ H δ E d e Q k=>by
 unfold ZC at e;cases hι:ι δ with
 |none=>rw [hι]at e;cases e
 |some xs=>
  rw [hι]at e;dsimp only at e;cases hc:Ym γ τ ε (Yv n δ js) xs with
  |none=>rw [hc]at e;cases e
  |some full=>
   rw [hc]at e;dsimp only at e
   by_cases hz:full.length<=sizeLine
   · rw [if_pos hz]at e
     have ed:D.lst full=d:=Option.some.inj e;refine hi H0 av A σ H δ E xs hι _ λJ H1 s1 W => ?_
     have E1:=E.mono s1
     refine⟨λi m ys H'=>m=xs.length-i/\i<=xs.length/\Same H1 H'/\∃done rest,RepL G.1 (AV av A) H' done ys/\Ym γ τ ε (Yv n δ js) (xs.drop i)=some rest/\done++rest=full,
      ⟨xs.length,by simp,Nat.zero_le _,Same.refl _,[],full,.nil,hc,rfl⟩,?_⟩
     rintro i m ys H' ⟨rfl,hle,s',done,rest,rl,hr,hf⟩
     have E':=E1.mono s';have sc:Same (DL.cut A H1) H':=λb o z=>s' b o (QZ z).1
     obtain⟨w1,w2,w3⟩:=W H' sc
     by_cases hlt:i<xs.length
     · refine .inr ⟨w1 i hlt,λv H2 y => ?_⟩
       have hx:xs[i]? = some xs[i]:=List.getElem?_eq_getElem hlt;obtain⟨s2,rep⟩:=w2 i _ v H2 hx y;have rep':Rep G.1 (AV av A) H2 xs[i] v:=rep _ E'.avl λb z => .inl z
       have E2:=E'.mono s2;have EB:ER ⟨G.1,λ_=>none⟩ [] H2 (AV av A) (λ_=>none) (L2.blk n σ js) H2 (Yv n δ js):=E2.blk n js hjs
       have triv:∀(A':Nat->Option Addr){σ':L2.St}{H3:Hp}{δ':Env},ER ⟨G.1,λ_=>none⟩ [] H2 (AV av A) A' σ' H3 δ'->∀b,AV (AV av A) A' b ↔ AV av A b:=λA' {σ' H3 δ'} E3 b=>by
        constructor
        · rintro(z|⟨j,z⟩)
          · exact z
          · have:=E3.dom j (by rw [z];exact λz=>by cases z)
            cases this
        · exact λz => .inl z
       rw [List.drop_eq_getElem_cons hlt]at hr;unfold Ym at hr;cases hγ:γ xs[i] (Yv n δ js)with
       |none=>rw [hγ]at hr;cases hr
       |some δ1=>
        rw [hγ]at hr;dsimp only at hr;refine hg _ _ _ _ H2 _ EB _ v (rep'.av λb z => .inl ((triv _ EB b).mp z)) δ1 hγ _ λA3 σ3 H3 s3 E3 => ?_
        cases hτ:τ δ1 with
        |none=>rw [hτ]at hr;cases hr
        |some c=>
         rw [hτ]at hr;refine ht _ _ A3 σ3 H3 δ1 E3 c hτ _ λH4 s4 => ?_
         have E4:=E3.mono s4;cases c with
         |false=>
          exact XX ⟨xs.length-(i+1),by omega,rfl,hlt,(s'.trans s2).trans (s3.trans s4),done,rest,rl.same ((s2.trans s3).trans s4),hr,hf⟩
         |true=>
          dsimp only at hr;cases hε:ε δ1 with
          |none=>rw [hε]at hr;cases hr
          |some yd=>
           rw [hε]at hr;dsimp only at hr;cases hr':Ym γ τ ε (Yv n δ js) (xs.drop (i+1))with
           |none=>rw [hr']at hr;cases hr
           |some rest'=>
            rw [hr']at hr;have hrr:yd::rest'=rest:=Option.some.inj hr;subst hrr;refine XY (he _ _ A3 σ3 H4 δ1 E4 yd hε _ λvy H5 s5 r5 => ?_);have sall:Same H' H5:=((s2.trans s3).trans s4).trans s5;refine⟨?_,xs.length-(i+1),by omega,rfl,hlt,s'.trans sall,done++[yd],rest',(rl.same sall).append (.cons ((RepT.r r5).av λb z => .inl ((triv _ E4 b).mpr z)) .nil),hr',by rw [<-hf];simp⟩
            have:=congrArg List.length hf;rw [List.length_append,List.length_cons]at this;have:=rl.length;omega
     · have ei:i=xs.length:=by omega
       subst ei;rw [List.drop_length]at hr;cases hr;refine .inl ⟨w3 _ (Nat.le_refl _),λp hp=>k p ys full H' (s1.trans s') hp (by rw [<-hf,List.append_nil];exact rl) ed.symm⟩
   · rw [if_neg hz]at e;cases e
def spD(cA:Kn)(n:Nat)(m:List D->Option D):Sp:=λvs H Q _=>∃av ds d,(∀a,av a->H a≠none)/\RepL cA av H ds vs/\ds.length=n/\m ds=some d/\∀v H',Same H H'->Rep cA av H' d v->Q v H'
def ZB(n:Nat)(m:List D->Option D)(dds:List D)(α:Env->Option (List D))(δ:Env):Option D:=match α δ with
 |some ds=>if(ds++dds).length=n then m (ds++dds)else none
 |none=>none
def Ql.cq:Ql->Ql
 | .cl => .cl
 |_ => .dt
theorem Ye{n:Nat}{m:List D->Option D}{t:TA}{q:Ql}{α:Env->Option (List D)}{E0:XK}(dds:List D)(hd:dds.all ZA=true)(h:VA G ow t q α):VE G ow (Zif (spD G.1 n m) (dds.map val) E0 t) q.cq (ZB n m dds α):=λH0 av A σ H δ E d e Q k=>by
 unfold ZB at e;cases he:α δ with
 |none=>rw [he]at e;cases e
 |some ds=>
  rw [he]at e;dsimp only at e
  by_cases hz:(ds++dds).length=n
  · rw [if_pos hz]at e
    refine h H0 av A σ H δ E ds he _ λvs H1 s1 r1 => ?_
    have E1:=E.mono s1;cases q with
    |cl=>exact⟨AV av A,ds++dds,d,E1.avl,r1.cl.append (.of_vals hd),hz,e,λv H' s r=>k v H' (s1.trans s) r.t⟩
    |tp=>exact⟨av,ds++dds,d,E1.avH,r1.any.append (.of_vals hd),hz,e,λv H' s r=>k v H' (s1.trans s) r.t⟩
    |dt=>exact⟨av,ds++dds,d,E1.avH,r1.any.append (.of_vals hd),hz,e,λv H' s r=>k v H' (s1.trans s) r.t⟩
  · rw [if_neg hz]at e;cases e
def run(N:Nat)(φ:Env->Option Out)(ds:List D):Option D:=match φ (ds.map some++List.replicate (N-ds.length) none)with
 |some (.rt d)=>some d
 |some (.nx _)=>some .non
 |_=>none
theorem ZeB{N:List Str}{ds:List D}{vs:List V}{av:Addr->Prop}{H:Hp}(r:RepL cA av H ds vs){i:Nat}{d:D}(h:(ds.map some++List.replicate (N.length-ds.length) none)[i]? = some (some d)) :
 ∃v,(L2.start N vs)[i]? = some (some v)/\Rep cA av H d v:=by
 by_cases hi:i<ds.length
 · rw [List.getElem?_append_left (by simpa using hi),List.getElem?_map]at h
   cases hd:ds[i]? with
   |none=>rw [hd]at h;cases h
   |some x=>
    rw [hd]at h;cases h;obtain⟨v,hv,rv⟩:=r.get hd;refine⟨v,?_,rv⟩;unfold L2.start;have:i<vs.length:=by rw [<-r.length];exact hi
    rw [List.getElem?_append_left (by simpa using this),List.getElem?_map,hv];rfl
 · rw [List.getElem?_append_right (by simpa using hi),List.getElem?_replicate]at h
   split at h<;>cases h
theorem Zfj{N:List Str}{ds:List D}{vs:List V}{av:Addr->Prop}{H:Hp}(ha:∀a,av a->H a≠none)(r:RepL cA av H ds vs) :
 ER ⟨cA,λ_=>none⟩ [] H av (λ_=>none) (L2.start N vs) H (ds.map some++List.replicate (N.length-ds.length) none):=by
 refine⟨Same.refl H,ha,λ_ _ z=>(by cases z),λ_ _ _ z=>(by cases z),λ_ _ z=>(by cases z),λ_ z=>absurd rfl z,λ_ z=>(by cases z),?_,λ_ _ z=>(by cases z),λ_ _ z=>(by cases z),λi d e => ?_⟩
 · unfold L2.start
   rw [List.length_append,List.length_append,List.length_map,List.length_map,List.length_replicate,List.length_replicate,r.length]
 · obtain⟨v,h1,h2⟩:=ZeB r e
   refine⟨v,h1,λ_=>h2.av λb z => ?_,λ_ z=>(by cases z)⟩;rcases z with z|⟨_,z⟩
   · exact .inl z
   · cases z
section
variable{P:Program}{w:World}{K:PySem.W.Frag}{mg:Str->Option Value}{base:Heap}
end
theorem ZdQ{vs:List V}{lo hi:Option Int}:V9 vs lo hi=cutL vs lo hi:=by
 unfold V9 cutL;have e:∀n d o,HT.sIx n d o=Yk n d o:=λn d o=>by cases o<;>rfl
 rw [e,e]
theorem RepL.cutL{av:Addr->Prop}{H:Hp}{xs:List D}{vs:List V}(l:RepL cA av H xs vs)(lo hi:Option Int):RepL cA av H (L2.cutL xs lo hi) (L2.cutL vs lo hi):=by
 unfold L2.cutL;rw [l.length];exact(l.drop _).take _
def xNoP(_:Env):Option (Option Int):=some none
def xP(ε:Env->Option D)(δ:Env):Option (Option Int):=match ε δ with
 |some (.int i)=>some (some i)
 |_=>none
def VO(G:Cn)(ow:List Nat)(to:TO)(ω:Env->Option (Option Int)):Prop:=
 ∀H0 av A σ H δ,ER G ow H0 av A σ H δ->∀x,ω δ=some x->∀Q:Option Int->Hp->Prop,(∀H',Same H H'->Q x H')->to σ H Q
theorem Zhm:VO G ow tNoPart xNoP:=λH0 av A σ H δ E x e Q k=>by
 cases e;exact k H (Same.refl H)
theorem ZbP{te:TE}{q:Ql}{ε:Env->Option D}(h:VE G ow te q ε):VO G ow (Zii te) (xP ε):=λH0 av A σ H δ E x e Q k=>by
 unfold xP at e;cases he:ε δ with
 |none=>rw [he]at e;cases e
 |some d=>
  rw [he]at e;cases d<;>first|(cases e;done)|skip
  cases e;exact h H0 av A σ H δ E _ he _ λv H' s r=>⟨_,r.any,k H' s⟩
def slD:D->Option Int->Option Int->Option D
 | .str a,lo,hi=>if a.length<=sizeLine then some (.str (L2.cutL a lo hi))else none
 | .lst xs,lo,hi=>some (.lst (L2.cutL xs lo hi))
 | .tup xs,lo,hi=>if Yk xs.length 0 lo=0/\Yk xs.length xs.length hi=xs.length then none else some (.tup (L2.cutL xs lo hi))
 |_,_,_=>none
def eSl(a:Env->Option D)(lo hi:Env->Option (Option Int))(δ:Env):Option D:=match a δ with
 |some x=>match lo δ with
  |some l=>match hi δ with
   |some u=>slD x l u
   |none=>none
  |none=>none
 |none=>none
theorem Zfk{a:Env->Option D}{lo hi:Env->Option (Option Int)}{δ:Env}{d:D}(h:eSl a lo hi δ=some d):∃x l u,a δ=some x/\lo δ=some l/\hi δ=some u/\slD x l u=some d:=by
 unfold eSl at h;cases ea:a δ with
 |none=>rw [ea]at h;cases h
 |some x=>
  rw [ea]at h;cases el:lo δ with
  |none=>rw [el]at h;cases h
  |some l=>
   rw [el]at h;cases eu:hi δ with
   |none=>rw [eu]at h;cases h
   |some u=>rw [eu]at h;exact⟨x,l,u,rfl,rfl,rfl,h⟩
theorem Zis{ta:TE}{tl th:TO}{q:Ql}{a:Env->Option D}{lo hi:Env->Option (Option Int)}(hq:q = .cl\/q = .tp)(ha:VE G ow ta q a)(hl:VO G ow tl lo)(hh:VO G ow th hi):VE G ow (tSl (ZjM G.1.K) ta tl th) .cl (eSl a lo hi):=λH0 av A σ H δ E d e Q k=>by
 obtain⟨x,l,u,ex,el,eu,ed⟩:=Zfk e;refine ha H0 av A σ H δ E x ex _ λv H1 s1 r1=>hl H0 av A σ H1 δ (E.mono s1) l el _ λH2 s2=>hh H0 av A σ H2 δ ((E.mono s1).mono s2) u eu _ λH3 s3 => ?_
 have s13:=s2.trans s3;have E3:=(E.mono s1).mono s13
 have r3:RepT G.1 av (AV av A) H3 x v:=by
  have:=(r1.same s13).tp;rcases hq with rfl|rfl<;>exact this
 cases x<;>first|(cases ed;done)|skip
 · rename_i cs
   cases(show v=_ from r3);dsimp only [slD]at ed
   by_cases hz:cs.length<=sizeLine
   · rw [if_pos hz]at ed
     cases ed;exact .inl ⟨cs,rfl,hz,k _ H3 (s1.trans s13) rfl⟩
   · rw [if_neg hz]at ed;cases ed
 · cases ed
   obtain⟨p,vs,rfl,_,rd,ll⟩:=r3;refine .inr (.inl ⟨p,vs,rfl,rd,λp' hp => ?_⟩);rw [ZdQ];exact k _ _ ((s1.trans s13).trans (ZU hp)) ⟨p',_,rfl,λz=>(E3.avl p' z hp).elim,SqL.of ZN,(ll.cutL l u).same (ZU hp)⟩
 · rename_i xs
   dsimp only [slD]at ed
   by_cases hz:Yk xs.length 0 l=0/\Yk xs.length xs.length u=xs.length
   · rw [if_pos hz]at ed;cases ed
   · rw [if_neg hz]at ed
     cases ed;obtain⟨p,vs,rfl,_,rd,ll⟩:=r3;refine .inr (.inr ⟨p,vs,rfl,SqT.of rd,?_,λp' hp => ?_⟩)
     · have e:∀n d o,HT.sIx n d o=Yk n d o:=λn d o=>by cases o<;>rfl
       rw [e,e,<-ll.length];exact hz
     · rw [ZdQ]
       exact k _ _ ((s1.trans s13).trans (ZU hp)) ⟨p',_,rfl,λz=>E3.avl p' z hp,ZN,(ll.cutL l u).same (ZU hp)⟩
def ZgP(K:PySem.W.Frag):List V->Hp->VK->Prop:=λxs H Q=>ZlJ K xs H Q\/∃p vs c cv b,xs=[.ref p,c]/\(∀v,RelV c v->v=cv)/\KL K p vs/\kitOne K (.type "list") cv=some b/\Q (.bl b) H
theorem Zdq{X:Cx}{K:PySem.W.Frag}(hK:X.K=K:=by rfl):Z6 X (.builtin "isinstance") (ZgP K):=by
 subst hK;intro pins s σ H xs us Q I rs h;rcases h with h|⟨p,vs,c,cv,b,rfl,hc,⟨o,its,n,hk,h1,_⟩,e,q⟩
 · exact Zfe pins s σ H xs us Q I rs h
 · obtain⟨u,w',rfl,rx,rc⟩:=Zie rs
   have ec:=hc _ rc;subst ec;cases(show u=Value.ref p from rx);exact PySem.W.kia_one PySem.W.kitx_list I.kIn ⟨o,I.kIn p o hk,h1⟩ e (λz=>nomatch z) λtk=>⟨.bl b,H,I.tok tk,rfl,q⟩
def kind:D->String
 | .non => "NoneType"
 | .bl _ => "bool"
 | .int _ => "int"
 | .str _ => "str"
 | .lst _ => "list"
 | .tup _ => "tuple"
 | .obj c _ _=>c
 | .dct _ _ => "dict"
 | .dtt _ _ => "dict"
def plainKinds:List String:=["NoneType", "bool", "int", "str", "list", "tuple"]
def UY(tab:List (String×Bool)):D->Option Bool
 | .obj c _ _=>if plainKinds.contains c then none else tab.lookup c
 | .dct _ _=>none
 | .dtt _ _=>none
 |d=>tab.lookup (kind d)
def X4(tab:List (String×Bool))(a:Env->Option D)(δ:Env):Option D:=match a δ with
 |some d=>match UY tab d with
  |some b=>some (.bl b)
  |none=>none
 |none=>none
structure ClsI(K:PySem.W.Frag)(C:Addr):Prop where
 cl:Cls K C
 ha:PySem.W.findIn K (.ref C) "__class__" = some (some (.builtin "object.__class__"))
 hn:PySem.W.specialIn K (.builtin "object.__class__") "__get__" = some (some (.builtin "getset_descriptor.__get__"))
 htk:PySem.W.takesIn K (.builtin "object.__class__")=some true
 hm:PySem.W.mroIn K C (.type "object")=some true
structure IsiOk(K:PySem.W.Frag)(cA:Kn)(cv:Value)(tab:List (String×Bool)):Prop where
 plain:∀k∈plainKinds,∀b,tab.lookup k=some b->kitOne K (.type k) cv=some b
 own:∀(c:String)b,plainKinds.contains c=false->tab.lookup c=some b->kitOne K (.ref (cA.c c)) cv=some b/\ClsI K (cA.c c)
theorem Za5{β:Type}{c:String}{b:β}:∀{tab:List (String×β)},tab.lookup c=some b->(c,b)∈tab
 | [],h=>by simp at h
 |(c',b')::r,h=>by
  rw [List.lookup_cons]at h;cases hc:c == c' with
  |true=>
   rw [hc]at h;cases h;rw [eq_of_beq hc];exact List.mem_cons_self
  |false=>
   rw [hc]at h;exact List.mem_cons_of_mem _ (Za5 h)
theorem ZdR{K:PySem.W.Frag}{cA:Kn}{cv:Value}{tab:List (String×Bool)}(h:∀p∈tab,if plainKinds.contains p.1=true then kitOne K (.type p.1) cv=some p.2 else kitOne K (.ref (cA.c p.1)) cv=some p.2/\ClsI K (cA.c p.1)):IsiOk K cA cv tab where
 plain:=λk hk b hl=>by
  have:=h _ (Za5 hl)
  rwa [if_pos (by simpa using hk)]at this
 own:=λc b hc hl=>by
  have:=h _ (Za5 hl)
  rwa [if_neg (by simpa using hc)]at this
theorem Zdr{ta:TE}{q:Ql}{a:Env->Option D}{c:V}{cv:Value}{tab:List (String×Bool)}(hc:∀v,RelV c v->v=cv)(I:IsiOk G.1.K G.1 cv tab)(ha:VE G ow ta q a) :
 VE G ow (tCB (ZgP G.1.K) (XV ta (XV (tC c) tNil))) .cl (X4 tab a):=λH0 av A σ H δ E d e Q k=>by
 unfold X4 at e;cases he:a δ with
 |none=>rw [he]at e;cases e
 |some x=>
  rw [he]at e;dsimp only at e;cases ht:UY tab x with
  |none=>rw [ht]at e;cases e
  |some b=>
   rw [ht]at e;cases e;refine ha H0 av A σ H δ E x he _ λv H1 s r => ?_
   have r':=r.any;have fin:∀t,TyOf G.1.K H1 v t->kitOne G.1.K t cv=some b->ZgP G.1.K [v,c] H1 Q:=λt ty e => .inl ⟨v,c,cv,t,b,rfl,hc,ty,e,k _ H1 s rfl⟩
   cases x with
   |non=>cases(show v=_ from r');exact fin _ .non (I.plain _ (by decide) b (by exact ht))
   |bl y=>cases(show v=_ from r');exact fin _ (.bl y) (I.plain _ (by decide) b (by exact ht))
   |int y=>cases(show v=_ from r');exact fin _ (.int y) (I.plain _ (by decide) b (by exact ht))
   |str y=>cases(show v=_ from r');exact fin _ (.str _) (I.plain _ (by decide) b (by exact ht))
   |lst y=>
    unfold Rep at r';obtain⟨p,vs,rfl,_,rd,_⟩:=r';rcases rd with(rd|⟨o,rd⟩)|rd
    · exact fin _ (.lst rd) (I.plain _ (by decide) b (by exact ht))
    · exact fin _ (.frz rd) (I.plain _ (by decide) b (by exact ht))
    · exact .inr ⟨p,vs,c,cv,b,rfl,hc,rd,I.plain _ (by decide) b (by exact ht),k _ H1 s rfl⟩
   |tup y=>
    unfold Rep at r';obtain⟨p,vs,rfl,_,rd,_⟩:=r';exact fin _ (.tup rd) (I.plain _ (by decide) b (by exact ht))
   |dct ks y=>cases ht
   |dtt ks y=>cases ht
   |obj c' ks y=>
    unfold Rep at r';obtain⟨p,dx,vs,rfl,_,rd,_⟩:=r';dsimp only [UY]at ht;cases hp:plainKinds.contains c' with
    |true=>rw [hp,if_pos rfl]at ht;cases ht
    |false=>
    rw [hp,if_neg Bool.false_ne_true]at ht;obtain⟨h1,h2⟩:=I.own c' b hp ht;exact fin _ (.ins rd h2.cl h2.ha h2.hn h2.htk h2.hm) h1
end
end DL
namespace L2
open PySem PySem.Spec
section
variable{X:Cx}
end
end L2
namespace DL
open PySem PySem.Spec L2
section
variable{cA:Kn}{G:Cn}{ow:List Nat}
def eBM(f:List Nat->List D->Option D)(a:Env->Option D)(α:Env->Option (List D))(δ:Env):Option D:=match a δ with
 |some (.str cs)=>match α δ with
  |some ds=>f cs ds
  |none=>none
 |_=>none
end
end DL
namespace L2
open PySem PySem.Spec
structure FunX(K:PySem.W.Frag)(x qual:Str)(st:Stmt)(f:Addr)(fd:FuncData):Prop where
 ex:∃(oc:Value) (od:Option Addr) (dV kV doc pm:Value) (an:Option Addr) (cdv ct:Value) (osl:Array (Option Value)),
  fd=fnOf x qual (defArgs st) (defBody st) (defScope st) dV kV doc pm an cdv ct/\K.lookup f=some ⟨oc,od,.func fd,osl⟩/\codeIn K cdv qual=true
theorem Fun.x{K:PySem.W.Frag}{x qual:Str}{st:Stmt}{f:Addr}{fd:FuncData}(F:Fun K x qual st f fd):FunX K x qual st f fd:=by
 obtain⟨oc,od,kV,doc,pm,an,cdv,ct,osl,h⟩:=F.ex;exact⟨oc,od,.none,kV,doc,pm,an,cdv,ct,osl,h⟩
section
variable{P:Program}{w:World}{K:PySem.W.Frag}{mg:Str->Option Value}{base:Heap}
theorem FunX.ok {x qual:Str} {st:Stmt} {f:Addr} {fd:FuncData} {N ps:List Str} {k:Nat} {sp:Sp} (F:FunX K x qual st f fd) (S:FnScope N ps (defScope st)) (len:∀vs H Q E,sp vs H Q E->vs.length=ps.length)
 (hbody:∀(cdv:Value)(A:Around)(outer:List Env)(s:Shared)(H:Hp)(vs:List V)(Q:VK)(E:XK),Room k (A.deeper (PyProof.Rows.envOfC qual (defScope st) s.heap.objs.size f cdv))->sp vs H Q E ->
   ∃t,PSs (XW CX0 P w K mg base N qual (defScope st) f cdv A outer s H E).nox (defBody st) t/\t { nx:=λ_ H'=>Q .non H',rt:=Q } (start N vs) H):FnOk P w K mg base CX0 (k+1) f fd ps sp:=by
 obtain⟨oc,od,dV,kV,doc,pm,an,cdv,ct,osl,rfl,lk,hcd⟩:=F.ex;refine Zih lk hcd S len λA outer s H vs Q E hr hsp => ?_
 obtain⟨t,h,q⟩:=hbody cdv A outer s H vs Q E hr hsp;exact⟨t,h.nox,q⟩
end
section
variable{X:Cx}
end
structure CMeth(K:PySem.W.Frag)(C:Addr)(m:Str)(f:Addr):Prop where
 ga:PySem.W.specialIn K (.ref C) "__getattribute__" = some (some (.builtin "type.__getattribute__"))
 rd:PySem.W.readsIn K C (.type "type")=true
 fc:PySem.W.findCls K (.ref C) (.type "type") m=some (.val (.ref f))
 kp:keepIn K (.ref f)=true
section
variable{X:Cx}{CX:CXT}{k:Nat}{f C:Addr}{fd:FuncData}{ps:List Str}{sp:Sp}{dvs:List V}{ds:List Value}{E:XK}{x m:Str}{p pos apos:Pos}{e o:Expr}{es:List Expr}{ta:TE}{t:TA}
end
end L2
namespace DL
open PySem PySem.Spec L2
theorem Zao{a b:String}(h:Str.ofString a=Str.ofString b):a=b:=by
 rw [Str.ofString_eq_toList,Str.ofString_eq_toList]at h
 have h1:(a.toList.map Char.toNat)=(b.toList.map Char.toNat):=by
  have:=congrArg (λs:Str=>s.cps.toList) h;simpa using this
 have inj:∀{x y:List Char},x.map Char.toNat=y.map Char.toNat->x=y:=by
  intro x
  induction x with
  |nil=>
   intro y h;cases y with
   |nil=>rfl
   |cons _ _=>cases h
  |cons c x ih=>
   intro y h;cases y with
   |nil=>cases h
   |cons d y=>
    rw [List.map_cons,List.map_cons,List.cons.injEq]at h;have:c=d:=Char.toNat_inj.mp h.1;rw [this,ih h.2]
 exact String.toList_inj.mp (inj h1)
theorem Zap(a b:String):(Str.ofString a == Str.ofString b)=(a == b):=by
 rw [Bool.eq_iff_iff,beq_iff_eq,beq_iff_eq];exact⟨Zao,λh=>by rw [h]⟩
section
variable{cA:Kn}{G:Cn}{ow owN owB owC:List Nat}
theorem Zcw{av:Addr->Prop}{H:Hp}{f:String}:∀{ks:List String}{xs:List D}{vs:List V}{d:D},RepL cA av H xs vs->(ks.zip xs).lookup f=some d->∃v,((ks.map Str.ofString).zip vs).lookup (Str.ofString f)=some v/\Rep cA av H d v
 | [],_,_,_,_,h=>by simp at h
 |k::ks,[],_,_,_,h=>by simp at h
 |k::ks,x::xs,vs,d,l,h=>by
  obtain⟨v,r,rfl,h1,h2⟩:=l.uncons;rw [List.zip_cons_cons,List.lookup_cons]at h;rw [List.map_cons,List.zip_cons_cons,List.lookup_cons,Zap];cases hk:f == k with
  |true=>rw [hk]at h;cases h;exact⟨v,rfl,h1⟩
  |false=>rw [hk]at h;exact Zcw h2 h
theorem Zcx{f:String}:∀{ks:List String}{vs:List V},ks.contains f=false->((ks.map Str.ofString).zip vs).lookup (Str.ofString f)=none
 | [],_,_=>by simp
 |k::ks,[],_=>by simp
 |k::ks,v::vs,h=>by
  rw [List.contains_cons,Bool.or_eq_false_iff]at h;rw [List.map_cons,List.zip_cons_cons,List.lookup_cons,Zap,h.1];exact Zcx h.2
theorem ZdS{f:String}{y:V}:∀{ks:List String}{vs:List V},ks.length=vs.length->ks.contains f=false->Yz (Str.ofString f) y ((ks.map Str.ofString).zip vs)=(((ks++[f]).map Str.ofString).zip (vs++[y]))
 | [],[],_,_=>rfl
 | [],_::_,h,_=>by simp at h
 |_::_,[],h,_=>by simp at h
 |k::ks,v::vs,h,hf=>by
  rw [List.contains_cons,Bool.or_eq_false_iff]at hf
  have hne:¬Str.ofString k=Str.ofString f:=λz=>by
   have:=Zao z;have h1:=hf.1;rw [this]at h1;simp at h1
  rw [List.map_cons,List.zip_cons_cons,List.cons_append,List.cons_append,List.map_cons,List.zip_cons_cons];rw [show Yz (Str.ofString f) y ((Str.ofString k,v)::(ks.map Str.ofString).zip vs)=(if Str.ofString k=Str.ofString f then(Str.ofString k,y)::(ks.map Str.ofString).zip vs else(Str.ofString k,v)::Yz (Str.ofString f) y ((ks.map Str.ofString).zip vs))from rfl,if_neg hne];rw [ZdS (by simpa using h) hf.2]
def Qp(K:PySem.W.Frag)(cA:Kn)(cls:List String)(f:String):Prop:=∀c∈cls,Cls K (cA.c c)/\NoAttr K (cA.c c) (Str.ofString f)
def Yg(cls:List String)(f:String)(a:Env->Option D)(δ:Env):Option D:=match a δ with
 |some (.obj c ks xs)=>if cls.contains c then(ks.zip xs).lookup f else none
 |_=>none
theorem Xn{K:PySem.W.Frag}{ta:TE}{q:Ql}{a:Env->Option D}{cls:List String}{f:String}(F:Qp K G.1 cls f)(ha:VE G ow ta q a):VE G ow (J0 K ta (Str.ofString f)) q.it (Yg cls f a):=λH0 av A σ H δ E d e Q k=>by
 unfold Yg at e;cases he:a δ with
 |none=>rw [he]at e;cases e
 |some x=>
  rw [he]at e;cases x<;>first|(cases e;done)|skip
  rename_i c ks xs;dsimp only at e
  by_cases hc:cls.contains c=true
  · rw [if_pos hc]at e
    obtain⟨h1,h2⟩:=F c (by simpa using hc);refine ha H0 av A σ H δ E _ he _ λv H1 s r => ?_
    obtain⟨p,dx,vs,rfl,_,rd,_,l⟩:=r.tp;obtain⟨w,hw,rw'⟩:=Zcw l e;refine⟨p,_,dx,_,w,rfl,rd,h1,h2,hw,k w H1 s ?_⟩;cases q<;>exact rw'.t
  · rw [if_neg hc]at e;cases e
def YG(i:Nat)(cls:List String)(f:String)(ε:Env->Option D)(δ:Env):Option Out:=match ε δ with
 |some d=>match Za i δ with
  |some (.obj c ks xs)=>if cls.contains c && !ks.contains f&&decide (ks.length<1000)then some (.nx (δ.set i (some (.obj c (ks++[f]) (xs++[d])))))else none
  |_=>none
 |none=>none
theorem Zds{K:PySem.W.Frag}{te:TE}{ε:Env->Option D}{cls:List String}{f:String}(i:Nat)(hi:ow.contains i=true)(F:Qp K G.1 cls f)(h:VE G ow te .cl ε):VS G ow ow owB owC (Zlb K (Yy i) te (Str.ofString f)) (YG i cls f ε):=λH0 av A σ H δ E o e De k=>by
 unfold YG at e;cases he:ε δ with
 |none=>rw [he]at e;cases e
 |some d=>
  rw [he]at e;dsimp only at e;cases hv:Za i δ with
  |none=>rw [hv]at e;cases e
  |some x=>
   rw [hv]at e;cases x<;>first|(cases e;done)|skip
   rename_i c ks xs;dsimp only at e
   by_cases hz:(cls.contains c && !ks.contains f&&decide (ks.length<1000))=true
   · rw [if_pos hz]at e
     cases e;simp only [Bool.and_eq_true,decide_eq_true_eq,Bool.not_eq_true']at hz;obtain⟨⟨z1,z2⟩,z3⟩:=hz;obtain⟨h1,h2⟩:=F c (by simpa using z1);have hi':i∈ow:=by simpa using hi
     cases hA:A i with
     |none=>exact absurd hA (E.dom' i hi')
     |some a=>
      refine h H0 av A σ H δ E d he _ λy H1 s r => ?_
      have E1:=E.mono s;obtain⟨v,g1,_,g3⟩:=E1.var i _ (Xa hv);obtain⟨rfl,dx,vs,q1,q0,q2⟩:=g3 a hA;have hl:ks.length=vs.length:=q0.trans q2.length;refine⟨_,g1,a,_,dx,_,rfl,q1,h1,h2,?_,k A σ _ (E1.put hA (Xa hv) (λb o hb e=>by rw [ZI hb];exact e) (by rw [ZN];exact λz=>by cases z) ?_)⟩
      · rw [List.length_zip,List.length_map];omega
      · refine⟨dx,vs++[y],?_,by rw [List.length_append,List.length_append,q0];rfl,?_⟩
        · rw [ZN,ZdS hl z2]
        · have ex : ∀ b o, ¬ AV av A b -> H1 b = some o -> upd H1 a (.ins (G.1.c c) dx (Yz (Str.ofString f) y ((ks.map Str.ofString).zip vs))) b = some o := fun b o n e => by
           rw [ZI λz=>n (.inr ⟨i,by rw [z];exact hA⟩)];exact e
          exact(q2.append (.cons (RepT.r r) .nil)).ext ex
   · rw [if_neg hz]at e;cases e
def spI(cA:Kn)(n:Nat)(m:List D->Option D):Sp:=λvs H Q _=>∃(x:Addr) (r:List V) (av:Addr->Prop) (ds:List D) (d d':D),vs = .ref x::r/\(∀a,av a->H a≠none)/\¬av x/\Own cA (λa=>av a\/a=x) H d x/\RepL cA (λa=>av a\/a=x) H ds r/\(d::ds).length=n/\m (d::ds)=some d' /\
 ∀H',(∀b o,b≠x->H b=some o->H' b=some o)->Own cA (λa=>av a\/a=x) H' d' x->Q .non H'
theorem Own.live{av:Addr->Prop}{H:Hp}{d:D}{a:Addr}(h:Own cA av H d a):H a≠none:=by
 cases d with
 |lst xs=>obtain⟨vs,q,_⟩:=h;rw [q];exact λz=>by cases z
 |obj c ks xs=>obtain⟨dx,vs,q,_⟩:=h;rw [q];exact λz=>by cases z
 |dct ks xs=>obtain⟨vs,q,_⟩:=h;rw [q];exact λz=>by cases z
 |dtt ks xs=>obtain⟨vs,q,_⟩:=h;rw [q];exact λz=>by cases z
 |_=>exact h.elim
theorem Own.av{av av':Addr->Prop}{H:Hp}{d:D}{a:Addr}(k:∀b,av' b->av b\/H b=none)(h:Own cA av H d a):Own cA av' H d a:=by
 cases d with
 |lst xs=>obtain⟨vs,q,l⟩:=h;exact⟨vs,q,l.av k⟩
 |obj c ks xs=>obtain⟨dx,vs,q,z,l⟩:=h;exact⟨dx,vs,q,z,l.av k⟩
 |dct ks xs=>obtain⟨vs,q,z,l⟩:=h;exact⟨vs,q,z,l.av k⟩
 |dtt ks xs=>obtain⟨vs,q,z,l⟩:=h;exact⟨vs,q,z,l.av k⟩
 |_=>exact h.elim
theorem Own.rep{av:Addr->Prop}{H:Hp}{d:D}{a:Addr}(n:¬av a)(h:Own cA av H d a):Rep cA av H d (.ref a):=by
 cases d with
 |lst xs=>obtain⟨vs,q,l⟩:=h;unfold Rep;exact⟨a,vs,rfl,λz=>(n z).elim,SqL.of q,l⟩
 |obj c ks xs=>obtain⟨dx,vs,q,z,l⟩:=h;unfold Rep;exact⟨a,dx,vs,rfl,n,q,z,l⟩
 |dct ks xs=>obtain⟨vs,q,z,l⟩:=h;unfold Rep;exact⟨a,vs,rfl,n,q,z,l⟩
 |dtt ks xs=>obtain⟨vs,q,z,l⟩:=h;unfold Rep;exact⟨a,vs,rfl,n,q,z,l⟩
 |_=>exact h.elim
def XJ(c:String)(n:Nat)(m:List D->Option D)(dds:List D)(α:Env->Option (List D))(δ:Env):Option D:=match α δ with
 |some ds=>if(D.obj c [] []::(ds++dds)).length=n then m (.obj c [] []::(ds++dds))else none
 |none=>none
theorem Q3{n:Nat}{m:List D->Option D}{t:TA}{α:Env->Option (List D)}{E0:XK}{c:String}(dds:List D)(hd:dds.all ZA=true)(h:VA G ow t .cl α):VE G ow (Zig (G.1.c c) (spI G.1 n m) (dds.map val) E0 t) .cl (XJ c n m dds α):=λH0 av A σ H δ E d e Q k=>by
 unfold XJ at e;cases he:α δ with
 |none=>rw [he]at e;cases e
 |some ds=>
  rw [he]at e;dsimp only at e
  by_cases hz:(D.obj c [] []::(ds++dds)).length=n
  · rw [if_pos hz]at e
    refine h H0 av A σ H δ E ds he _ λvs H1 s1 r1 x dx hx hdx hne => ?_
    have E1:=E.mono s1;have s2:Same H1 (upd (upd H1 dx (.own x)) x (.ins (G.1.c c) dx [])):=(ZU hdx).trans (ZU (by rw [ZI (Ne.symm hne)];exact hx));have nx:¬AV av A x:=λz=>E1.avl x z hx
    refine⟨x,vs++dds.map val,AV av A,ds++dds,.obj c [] [],d,rfl,λa z => ?_,nx,⟨dx,[],ZN,rfl,.nil⟩,?_,hz,e,λH' hk ho=>⟨rfl,k _ H' ?_ ?_⟩⟩
    · have:=E1.avl a z
      cases q:H1 a with
      |none=>exact absurd q this
      |some o=>rw [s2 a o q];exact λz=>by cases z
    · refine RepL.same s2 ((r1.cl.append (.of_vals hd)).av λb z => ?_)
      rcases z with z|z
      · exact .inl z
      · exact .inr (by rw [z];exact hx)
    · refine s1.trans λb o e=>hk b o (λz=>by rw [z,hx]at e;cases e) (s2 b o e)
    · exact((ho.av λb z => .inl (.inl z)).rep nx).t
  · rw [if_neg hz]at e;cases e
def Zit(i n:Nat)(m:List D->Option D)(dds:List D)(α:Env->Option (List D))(δ:Env):Option Out:=match Za i δ with
 |some d=>match α δ with
  |some ds=>if(d::(ds++dds)).length=n then(match m (d::(ds++dds))with
   |some d'=>some (.nx (δ.set i (some d')))
   |none=>none)else none
  |none=>none
 |none=>none
def runI(N:Nat)(φ:Env->Option Out)(ds:List D):Option D:=match φ (ds.map some++List.replicate (N-ds.length) none)with
 |some (.nx δ)=>Za 0 δ
 |_=>none
section
variable{P:Program}{w:World}{K:PySem.W.Frag}{mg:Str->Option Value}{base:Heap}
theorem ZlK {x qual:Str} {st:Stmt} {f:Addr} {fd:FuncData} {N ps:List Str} {k:Nat} {φ:Env->Option Out} (F:FunX K x qual st f fd) (S:FnScope N ps (defScope st))
 (hbody:∀(cdv:Value)(A:Around)(outer:List PySem.Env)(s:Shared)(H:Hp)(E:XK)(a:Addr),Room k (A.deeper (PyProof.Rows.envOfC qual (defScope st) s.heap.objs.size f cdv)) ->
   ∃t,PSs (XW CX0 P w K mg base N qual (defScope st) f cdv A outer s H E).nox (defBody st) t/\VS ⟨cA,λj=>if j=0 then some (.inl a)else none⟩ [0] [0] [] [] t φ):FnOk P w K mg base CX0 (k+1) f fd ps (spI cA ps.length (runI N.length φ)):=by
 refine F.ok S (λvs H Q E h => ?_) λcdv A outer s H vs Q E hr h => ?_
 · obtain⟨x,r,av,ds,d,d',rfl,_,_,_,l,hl,_⟩:=h
   rw [<-hl,List.length_cons,List.length_cons,l.length]
 · obtain⟨x,r,av,ds,d,d',rfl,ha,nx,ho,l,hl,hm,q⟩:=h
   obtain⟨t,ht,hv⟩:=hbody cdv A outer s H E x hr;refine⟨t,ht,?_⟩;unfold runI at hm;cases hφ:φ ((d::ds).map some++List.replicate (N.length-(d::ds).length) none)with
   |none=>rw [hφ]at hm;cases hm
   |some o=>
    rw [hφ]at hm;cases o<;>first|(cases hm;done)|skip
    rename_i δ';have hm:Za 0 δ'=some d':=hm
    have hAV:∀b,AV av (λj=>if j=0 then some x else none) b ↔ av b\/b=x:=λb=>by
     constructor
     · rintro(z|⟨j,z⟩)
       · exact .inl z
       · by_cases e:j=0
         · simp [e]at z;exact .inr z.symm
         · simp [e]at z
     · rintro(z|z)
       · exact .inl z
       · exact .inr ⟨0,by simp [z]⟩
    have E0:ER ⟨cA,λj=>if j=0 then some (.inl x)else none⟩ [0] (λb=>if b=x then none else H b) av (λj=>if j=0 then some x else none) (L2.start N (.ref x::r)) H ((d::ds).map some++List.replicate (N.length-(d::ds).length) none):=by
     refine⟨λb o e => ?_,λa z => ?_,λi a e => ?_,λi j a e1 e2 => ?_,λi a e => ?_,λi e => ?_,λi hi => ?_,?_,(λi a e=>by
      by_cases q:i=0
      · simp [q]at e;simp [q,e]
      · simp [q]at e),(λi v e=>by
      by_cases q:i=0
      · simp [q]at e
      · simp [q]at e),λi d'' e => ?_⟩
     · by_cases q:b=x
       · simp [q]at e
       · simpa [q]using e
     · have:a≠x:=λq=>nx (q▸z)
       simp [this];exact ha a z
     · by_cases q:i=0
       · simp [q]at e;simp [e]
       · simp [q]at e
     · by_cases q:i=0
       · by_cases q2:j=0
         · rw [q,q2]
         · simp [q2]at e2
       · simp [q]at e1
     · by_cases q:i=0
       · simp [q]at e;subst e;exact ho.live
       · simp [q]at e
     · by_cases q:i=0
       · simp [q]
       · simp [q]at e
     · have:i=0:=by simpa using hi
       simp [this]
     · unfold L2.start
       rw [List.length_append,List.length_append,List.length_map,List.length_map,List.length_replicate,List.length_replicate,List.length_cons,List.length_cons,l.length]
     · by_cases q:i=0
       · subst q
         have e':d=d'':=by simpa using e
         subst e'
         exact⟨.ref x,by simp [L2.start],λz=>by simp at z,λa z=>by
          simp at z;subst z;exact⟨rfl,ho.av λb z => .inl ((hAV b).mp z)⟩⟩
       · obtain⟨i,rfl⟩:∃i',i=i'+1:=⟨i-1,by omega⟩
         have e2:(ds.map some++List.replicate (N.length-(ds.length+1)) none)[i]? = some (some d''):=by simpa using e
         by_cases hi:i<ds.length
         · rw [List.getElem?_append_left (by simpa using hi),List.getElem?_map]at e2
           cases hd:ds[i]? with
           |none=>rw [hd]at e2;cases e2
           |some z=>
            rw [hd]at e2;cases e2;obtain⟨v,hv',rv⟩:=l.get hd;refine⟨v,?_,λ_=>rv.av λb z => .inl ((hAV b).mp z),λa z=>by simp at z⟩;unfold L2.start;have:i+1<(V.ref x::r).length:=by rw [List.length_cons,<-l.length];omega
            rw [List.getElem?_append_left (by simpa using this),List.getElem?_map];simp [hv']
         · rw [List.getElem?_append_right (by simpa using hi),List.getElem?_replicate]at e2
           split at e2<;>cases e2
    refine hv _ av _ _ H _ E0 _ hφ _ λA' σ' H' E' => ?_
    have hA':A' 0=some x:=E'.pin 0 x (by simp);obtain⟨v,_,_,g3⟩:=E'.var 0 d' (Xa hm);obtain⟨_,ho'⟩:=g3 x hA';refine q H' (λb o hb e=>E'.same b o (by simpa [hb]using e)) (ho'.av λb z => ?_);rcases z with z|z
    · exact .inl (.inl z)
    · exact .inl (.inr ⟨0,by rw [hA',z]⟩)
theorem Zj8 {x qual:Str} {st:Stmt} {f:Addr} {fd:FuncData} {N ps:List Str} {k:Nat} {φ:Env->Option Out} (F:FunX K x qual st f fd) (S:FnScope N ps (defScope st))
 (hbody:∀(cdv:Value)(A:Around)(outer:List PySem.Env)(s:Shared)(H:Hp)(E:XK),Room k (A.deeper (PyProof.Rows.envOfC qual (defScope st) s.heap.objs.size f cdv)) ->
   ∃t,PSs (XW CX0 P w K mg base N qual (defScope st) f cdv A outer s H E).nox (defBody st) t/\∃owN,VS ⟨cA,λ_=>none⟩ [] owN [] [] t φ):FnOk P w K mg base CX0 (k+1) f fd ps (spD cA ps.length (run N.length φ)):=by
 refine F.ok S (λvs H Q E h => ?_) λcdv A outer s H vs Q E hr h => ?_
 · obtain⟨av,ds,d,_,r,hl,_⟩:=h
   rw [<-r.length,hl]
 · obtain⟨av,ds,d,ha,r,hl,hm,q⟩:=h
   obtain⟨t,ht,owN,hv⟩:=hbody cdv A outer s H E hr;refine⟨t,ht,?_⟩;unfold run at hm;cases hφ:φ (ds.map some++List.replicate (N.length-ds.length) none)with
   |none=>rw [hφ]at hm;cases hm
   |some o=>
    rw [hφ]at hm;refine hv H av _ _ H _ (Zfj ha r) o hφ _ ?_;cases o with
    |nx δ'=>cases hm;exact λA' σ' H' E'=>q .non H' E'.same rfl
    |rt d'=>cases hm;exact λv H' s' r'=>q v H' s' r'
    |bk δ'=>cases hm
    |ct δ'=>cases hm
end
abbrev MTab:=List (String×(Nat×(List D->Option D)))
structure MethOk(X:Cx)(cA:Kn)(k:Nat)(m:String)(c:String)(n:Nat)(mm:List D->Option D):Prop where
 ex:∃f fd ps,Cls X.K (cA.c c)/\Meth X.K (cA.c c) (Str.ofString m) f/\FnOk X.prog X.w X.K X.mg X.base CX0 k f fd ps (spD cA n mm)/\Binds X.K fd ps []
def MTOk(X:Cx)(cA:Kn)(k:Nat)(m:String):MTab->Prop
 | []=>True
 |(c,n,mm)::r=>MethOk X cA k m c n mm/\MTOk X cA k m r
theorem MTOk.get{X:Cx}{k:Nat}{m:String}:∀{tab:MTab}{c:String}{n:Nat}{mm:List D->Option D},MTOk X cA k m tab->tab.lookup c=some (n,mm)->MethOk X cA k m c n mm
 | [],_,_,_,_,h=>by simp at h
 |(c',n',mm')::r,c,n,mm,T,h=>by
  rw [List.lookup_cons]at h;cases hc:c == c' with
  |true=>
   rw [hc]at h;cases h;have:c=c':=eq_of_beq hc;subst this;exact T.1
  |false=>
   rw [hc]at h;exact MTOk.get T.2 h
def Zgi(cA:Kn)(m:String)(tab:MTab)(ta:TE)(t:TA):TE:=λσ H Q=>ta σ H λx H1=>∃a dx fs c n mm,x = .ref a/\H1 a=some (.ins (cA.c c) dx fs)/\fs.lookup (Str.ofString m)=none/\tab.lookup c=some (n,mm)/\t σ H1 λvs H2=>spD cA n mm (x::vs) H2 Q E0
theorem Zav {X:Cx} {k:Nat} {m:String} {tab:MTab} {o:Expr} {ta:TE} {pos apos:Pos} {pl:Sem Bool} (T:MTOk X cA k m tab) (hr:Room k X.A) (he:PE X o ta)
 (ht:eval (.Call (.Attribute o (Str.ofString m) apos) [] [] pos) X.env=(do
   let ov <-eval o X.env
   standAt apos.atName
   let(f,first) <-holding [ov] (getMethod ov (Str.ofString m) pl)
   callWith pos f first (backTo pos (starEach [] X.env)) (backToKw pos (keywordEach [] X.env))):=by rfl) :
 PE X (.Call (.Attribute o (Str.ofString m) apos) [] [] pos) (Zgi cA m tab ta tNil):=by
 intro pins s σ H Q I h;refine PySem.W.methodCall_KW (pl:=pl) (thn (he pins s σ H _ I h) λu s1 ⟨x,H1,I1,rx,a,dx,fs,c,n,mm,ex,ea,l,tl,q⟩ => ?_) ht;subst ex;obtain rfl:u=Value.ref a:=rx;obtain⟨f,fd,ps,hc,hm,F,hb⟩:=(T.get tl).ex;refine ZcZ I1 ea hc hm l ?_;exact PySem.W.callWith_K0 (first:=[.ref a]) I1.kIn hm.kp (Zf6 (us:=[.ref a]) (vs:=[.ref a]) (dvs:=[]) (ds:=[]) F hr hb .nil Z3 I1 (.cons rfl .nil) (by rw [List.append_nil];exact q))
def XM(m:String)(tab:MTab)(a:Env->Option D)(α:Env->Option (List D))(δ:Env):Option D:=match a δ with
 |some (.obj c ks xs)=>if ks.contains m then none else(match tab.lookup c with
  |some (n,mm)=>match α δ with
   |some ds=>if(D.obj c ks xs::ds).length=n then mm (.obj c ks xs::ds)else none
   |none=>none
  |none=>none)
 |_=>none
theorem ZbQ{m:String}{tab:MTab}{ta:TE}{t:TA}{a:Env->Option D}{α:Env->Option (List D)}(ha:VE G ow ta .cl a)(h:VA G ow t .cl α):VE G ow (Zgi G.1 m tab ta t) .cl (XM m tab a α):=λH0 av A σ H δ E d e Q k=>by
 unfold XM at e;cases hx:a δ with
 |none=>rw [hx]at e;cases e
 |some x=>
  rw [hx]at e;cases x<;>first|(cases e;done)|skip
  rename_i c ks xs;dsimp only at e;cases hf:ks.contains m with
  |true=>rw [hf,if_pos rfl]at e;cases e
  |false=>
   rw [hf,if_neg Bool.false_ne_true]at e;cases htb:tab.lookup c with
   |none=>rw [htb]at e;cases e
   |some p=>
    obtain⟨n,mm⟩:=p;rw [htb]at e;dsimp only at e;cases he:α δ with
    |none=>rw [he]at e;cases e
    |some ds=>
     rw [he]at e;dsimp only at e
     by_cases hz:(D.obj c ks xs::ds).length=n
     · rw [if_pos hz]at e
       refine ha H0 av A σ H δ E _ hx _ λv H1 s1 r1 => ?_
       obtain⟨p,dx,vs,rfl,np,rd,zl,l⟩:=r1;refine⟨p,dx,_,c,n,mm,rfl,rd,Zcx hf,htb,h H0 av A σ H1 δ (E.mono s1) ds he _ λws H2 s2 r2 => ?_⟩;have E2:=(E.mono s1).mono s2;refine⟨AV av A,.obj c ks xs::ds,d,E2.avl,.cons ?_ r2.cl,hz,e,λv H' s r=>k v H' ((s1.trans s2).trans s) r.t⟩;unfold Rep;exact⟨p,dx,vs,rfl,np,s2 _ _ rd,zl,l.same s2⟩
     · rw [if_neg hz]at e;cases e
def isD:D->D->Option D
 | .bl a,.bl b=>some (.bl (a == b))
 |_,_=>none
end
end DL
namespace DL
open PySem PySem.Spec L2
def XN:Nat->List D->List D
 |_,[]=>[]
 |k,x::xs => .tup [.int (k:Nat),x]::XN (k+1) xs
theorem Zac:∀(k:Nat)(xs:List D),(XN k xs).length=xs.length
 |_,[]=>rfl
 |k,x::xs=>by rw [XN,List.length_cons,List.length_cons,Zac]
theorem Zbr:∀(k:Nat)(xs:List D)(i:Nat),(XN k xs)[i]? = (xs[i]?).map λx => .tup [.int ((k+i:Nat):Int),x]
 |_,[],i=>by simp [XN]
 |k,x::xs,0=>by simp [XN]
 |k,x::xs,i+1=>by
  rw [XN,List.getElem?_cons_succ,List.getElem?_cons_succ,Zbr (k+1) xs i];have:k+1+i=k+(i+1):=by omega
  rw [this]
section
variable{cA:Kn}{G:Cn}{ow:List Nat}
end
end DL
namespace DL
open PySem PySem.Spec L2
section
variable{cA:Kn}{P:Program}{w:World}{K:PySem.W.Frag}{mg:Str->Option Value}{base:Heap}
theorem YH {x qual:Str} {st:Stmt} {f:Addr} {fd:FuncData} {N ps:List Str} {k:Nat} {φ:Env->Option Out} {body:List Stmt} {scope:Scope} {n:Nat} {m:List D->Option D} (F:FunX K x qual st f fd) (S:FnScope N ps (defScope st)) (hS:defScope st=scope) (hB:defBody st=body)
 (hbody:∀(cdv:Value)(A:Around)(outer:List PySem.Env)(s:Shared)(H:Hp)(E:XK),Room k (A.deeper (PyProof.Rows.envOfC qual scope s.heap.objs.size f cdv)) ->
   ∃t,PSs (XW CX0 P w K mg base N qual scope f cdv A outer s H E).nox body t/\∃owN,VS ⟨cA,λ_=>none⟩ [] owN [] [] t φ)  (hm:m=run N.length φ) (hn:ps.length=n):FnOk P w K mg base CX0 (k+1) f fd ps (spD cA n m):=by
 subst hS hB hm hn;exact Zj8 F S hbody
theorem Zj9 {x qual:Str} {st:Stmt} {f:Addr} {fd:FuncData} {N ps:List Str} {k:Nat} {φ:Env->Option Out} {body:List Stmt} {scope:Scope} {n:Nat} {m:List D->Option D} (F:FunX K x qual st f fd) (S:FnScope N ps (defScope st)) (hS:defScope st=scope) (hB:defBody st=body)
 (hbody:∀(cdv:Value)(A:Around)(outer:List PySem.Env)(s:Shared)(H:Hp)(E:XK)(a:Addr),Room k (A.deeper (PyProof.Rows.envOfC qual scope s.heap.objs.size f cdv)) ->
   ∃t,PSs (XW CX0 P w K mg base N qual scope f cdv A outer s H E).nox body t/\VS ⟨cA,λj=>if j=0 then some (.inl a)else none⟩ [0] [0] [] [] t φ)  (hm:m=runI N.length φ) (hn:ps.length=n):FnOk P w K mg base CX0 (k+1) f fd ps (spI cA n m):=by
 subst hS hB hm hn;exact ZlK F S hbody
end
end DL
namespace DL
open PySem PySem.Spec L2 PyProof.Rows
def YE:List D->Option (List Int)
 | []=>some []
 | .int b::r=>match YE r with
  |some bs=>some (b::bs)
  |none=>none
 |_=>none
theorem Ui:∀{xs:List D}{bs:List Int},YE xs=some bs->xs=bs.map D.int
 | [],bs,h=>by cases h;rfl
 |x::xs,bs,h=>by
  cases x<;>first|(cases h;done)|skip
  rename_i b;unfold YE at h;cases hr:YE xs with
  |none=>rw [hr]at h;cases h
  |some cs=>
   rw [hr]at h;cases h;rw [List.map_cons,Ui hr]
theorem Uj:∀(ns:List Int)(its:List Value),Vals (ns.map V.int) its->IntsAre its ns
 | [],its,h=>by cases h;exact .nil
 |n::ns,its,h=>by
  cases h with
  |cons r1 r2=>
   obtain⟨t,rfl⟩:=r1;exact .cons _ _ (Uj ns _ r2)
def VD:List Int->Int
 | []=>0
 |n::ns=>ns.foldl max n
theorem Zae:∀(ns:List Int)(n:Int),(ns.foldl max n=n\/ns.foldl max n∈ns)/\n<=ns.foldl max n/\∀a∈ns,a<=ns.foldl max n
 | [],n=>⟨.inl rfl,Int.le_refl _,λ_ z=>nomatch z⟩
 |m::ns,n=>by
  obtain⟨h1,h2,h3⟩:=Zae ns (max n m);rw [List.foldl_cons];refine⟨?_,by omega,λa ha => ?_⟩
  · rcases h1 with h|h
    · by_cases hm:n<=m
      · exact .inr (by rw [h,Int.max_eq_right hm];exact List.mem_cons_self)
      · exact .inl (by rw [h,Int.max_eq_left (by omega)])
    · exact .inr (List.mem_cons_of_mem _ h)
  · rcases List.mem_cons.mp ha with rfl|ha
    · omega
    · exact h3 a ha
theorem Zbs{ns:List Int}(h:0<ns.length):VD ns∈ns/\∀a∈ns,a<=VD ns:=by
 cases ns with
 |nil=>cases h
 |cons n ns=>
  obtain⟨h1,h2,h3⟩:=Zae ns n;refine⟨?_,λa ha => ?_⟩
  · rcases h1 with h|h
    · show ns.foldl max n∈_
      rw [h];exact List.mem_cons_self
    · exact List.mem_cons_of_mem _ h
  · rcases List.mem_cons.mp ha with rfl|ha
    · exact h2
    · exact h3 a ha
theorem Zbt{ns:List Int}{M:Int}(h1:M∈ns)(h2:∀a∈ns,a<=M):M=VD ns:=by
 obtain⟨h3,h4⟩:=Zbs (List.length_pos_of_mem h1);exact Int.le_antisymm (h4 M h1) (h2 _ h3)
def ZgQ(K:PySem.W.Frag):List V->Hp->VK->Prop:=λxs H Q=>∃(p:Addr) (ns:List Int),xs=[.ref p]/\SqL K H p (ns.map V.int)/\0<ns.length/\Q (.int (VD ns)) H
def ZgR(K:PySem.W.Frag):List V->Hp->VK->Prop:=λxs H Q=>∃(p:Addr) (ns:List Int),xs=[.ref p]/\SqL K H p (ns.map V.int)/\Q (.int ns.sum) H
section
variable{X:Cx}{K:PySem.W.Frag}{cA:Kn}
theorem ZeC(hc:X.calm=true):Z6 X (.builtin "max") (ZgQ X.K):=by
 intro pins s σ H xs us Q I rs h;obtain⟨p,ns,rfl,hq,hne,q⟩:=h;obtain⟨u,rfl,rx⟩:=YV rs;cases rx;obtain⟨its,rv,pl,hz⟩:=I.list hq;have hi:=Uj ns its rv;obtain⟨ys,e⟩:=hi.allInts.items
 have hns:ns=ys.toList.map (·.1):=by
  rw [<-hi.numsOf,<-nums_intItems,<-e]
 have hsz:0<ys.size:=by
  have h3:=hne;rw [hns,List.length_map,Array.length_toList]at h3;exact h3
 have hl:=pl.isList;rw [e]at hl;refine max_intList (I.ok.hd hc) hl hsz λv h' tk hv hk => ?_
 obtain⟨t,rfl⟩:=intItems_at hv;obtain⟨h1,h2⟩:=argBest_gt (numAt ys) (ys.size-1)
 have hM:=Zbt (ns:=ns) (M:=numAt ys (argBest (λi j=>decide (numAt ys i>numAt ys j)) (ys.size-1))) (by
  rw [hns,numAt_eq];exact getD_mem (by rw [List.length_map,Array.length_toList];omega)) (λa ha=>by
  rw [hns]at ha;obtain⟨j,hj,rfl⟩:=mem_getD ha;rw [List.length_map,Array.length_toList]at hj;rw [<-numAt_eq];exact h2 j (by omega))
 exact⟨.int (VD ns),H,I.kept hk,⟨t,by rw [hM]⟩,q⟩
theorem ZeD(hc:X.calm=true):Z6 X (.builtin "sum") (ZgR X.K):=by
 intro pins s σ H xs us Q I rs h;obtain⟨p,ns,rfl,hq,q⟩:=h;obtain⟨u,rfl,rx⟩:=YV rs;cases rx;obtain⟨its,rv,pl,hz⟩:=I.list hq;have hi:=Uj ns its rv;obtain⟨ys,e⟩:=hi.allInts.items
 have hns:ns=ys.toList.map (·.1):=by
  rw [<-hi.numsOf,<-nums_intItems,<-e]
 have hl:=pl.isList;rw [e]at hl;refine sum_intListG (I.ok.hd hc) hl λh' tk t' hk => ?_
 have e2:preSum (numAt ys) ys.size=ns.sum:=by
  rw [preSum_eq,List.take_of_length_le (by simp),hns]
 exact⟨.int ns.sum,H,I.kept hk,⟨t',by rw [e2]⟩,q⟩
theorem Q4(hc:X.calm=true:=by rfl)(hK:X.K=K:=by rfl):Z6 X (.builtin "sum") (ZgR K):=hK▸ZeD hc
def maxLD:List D->Option D
 | [.lst xs]=>match YE xs with
  |some ns=>if 0<ns.length then some (.int (VD ns))else none
  |none=>none
 |_=>none
def sumLD:List D->Option D
 | [.lst xs]=>match YE xs with
  |some ns=>some (.int ns.sum)
  |none=>none
 |_=>none
theorem Zhn:X1 cA (ZgQ cA.K) maxLD:=λi H ds vs d _ h e Q k=>by
 unfold maxLD at e
 split at e
 · rename_i xs
   cases hb:YE xs with
   |none=>rw [hb]at e;cases e
   |some bs=>
    rw [hb]at e;dsimp only at e
    by_cases hz:0<bs.length
    · rw [if_pos hz]at e
      cases e;obtain⟨v,t,rfl,a,ws,rfl,_,rd,l⟩:=il1 h;have ex:=Ui hb;subst ex;have ev:=l.vals (by rw [List.all_map];exact List.all_eq_true.mpr λ_ _=>rfl);rw [List.map_map]at ev;subst ev;exact⟨a,bs,rfl,rd,hz,k _ H (Same.refl H) rfl⟩
    · rw [if_neg hz]at e;cases e
 · cases e
theorem Q5:X1 cA (ZgR cA.K) sumLD:=λi H ds vs d _ h e Q k=>by
 unfold sumLD at e
 split at e
 · rename_i xs
   cases hb:YE xs with
   |none=>rw [hb]at e;cases e
   |some bs=>
    rw [hb]at e;cases e;obtain⟨v,t,rfl,a,ws,rfl,_,rd,l⟩:=il1 h;have ex:=Ui hb;subst ex;have ev:=l.vals (by rw [List.all_map];exact List.all_eq_true.mpr λ_ _=>rfl);rw [List.map_map]at ev;subst ev;exact⟨a,bs,rfl,rd,k _ H (Same.refl H) rfl⟩
 · cases e
end
end DL
namespace L2
open PySem PySem.Spec PyProof.Rows
section
variable{X:Cx}{scope:Scope}{tn cn:List Str}{js:List Nat}{tg iter elt:Expr}{ifs:List Expr}{pos spos pos':Pos}{wi:TI}{g:TG}{tt:TT}{te:TE}
theorem VH {i:Nat} {x:Str} (hN:X.N.Nodup) (hi:X.N[i]? = some x) (hx:X.env.scope.names.lookup x=some .local) (hc:X.calm=true) (S:CompSc X scope tn cn js) (hI:PI X tg iter wi)
 (hg:∀C s₂ H₂ fp,PG (XH X scope (tn++cn) C s₂ H₂ fp) tg g) (ht:∀C s₂ H₂ fp,PTs (XH X scope (tn++cn) C s₂ H₂ fp) ifs tt) (he:∀C s₂ H₂ fp,PE (XH X scope (tn++cn) C s₂ H₂ fp) elt te)
 (hsw:swapsWith (.ListComp elt [⟨tg,iter,ifs,0⟩] scope pos) (some (.Name x pos')) spos.line X.env=pure true:=by rfl)
 (hs:∀x,foldedSetIterable iter X.env x=pure x:=by intro _;rfl) :
 PS X (.Assign [.Name x pos'] (.ListComp elt [⟨tg,iter,ifs,0⟩] scope pos) spos) (XU (Qk wi g tt te tn.length js) (YU i)):=by
 intro pins s σ H D I h;rw [exec_Assign_Name_used _ _ _ _ hsw];refine wpAny_bind (wpAny_standAt (wpAny_bind ?_));show wpAny _ X.A (do let _ <-comprehension (.ListComp elt [⟨tg,iter,ifs,0⟩] scope pos) scope X.env _ (newList []) false (eval iter X.env) (some (assign (.Name x pos') X.env))) _ _ s
 refine wpAny_bind (wpAny_mono (wpAny_comprehension_free (use:=some (assign (.Name x pos') X.env)) (Q:=λ_ s'=>SP X pins D .next s') (cl:=Y3 X.env.cells scope.names []) rfl hs (Zai (S.clos I.ok)) S.kind S.names
  (thn (hI pins s σ H _ I h) λv s1 h1=>thn h1 λitv s2 h2 => ?_)) (λ_ s' hq=>wpAny_pure (wpAny_pure hq)) λ_ _ e=>e)
 obtain⟨it,fp,tnx,J,H2,e,I2,T,st2,f2,W,⟨m0,w0⟩,turn⟩:=h2;subst e;refine ZaT (RR:=λacc C=>compPost (model X.prog X.w) X.A X.xe (some (assign (.Name x pos') X.env)) (λ_ s'=>SP X pins D .next s') acc C) (W:=W) (m0:=m0) hc S hg ht he I2 T st2 f2 w0 λi' m ys H w => ?_
 rcases turn i' m ys H w with⟨stop,qn⟩|r
 · refine .inl ⟨stop,λC D' s its n σ' hC hD hDC hv hz I' => ?_⟩
   obtain⟨m',hn,_⟩:=id I'.loc;have pd:=I'.pin (D',{ cls := .type "list",data := .seq its.toArray n }) (List.mem_append_right _ List.mem_cons_self);have hCf:H C=none:=I'.free;have I1:Inv X pins σ (upd H D' (.lst ys)) { s with heap:=s.heap }:=Zcs S I2 hC hD hDC f2 I' hv hz (Heap.SameBut.refl _ _);show wpAny _ X.A (assign (.Name x pos') X.env (.ref D')) _ _ _;have hlC:X.env.locals≠C:=λz=>absurd (z▸I2.lt) (Nat.not_lt.mpr hC)
   have hcC:∀y c,X.env.cells.lookup y=some c->c≠C:=λy c e z=>by
    obtain⟨v',o',q,_⟩:=I2.cell y c e;exact absurd (Heap.lt_size q) (Nat.not_lt.mpr (z▸hC))
   refine wpAny_assign_Name (Zbd I1 hN hi (.inl hx) (v:=.ref D') rfl (λs3 I3 ⟨a,hsb,ha⟩ => ?_) (.inr hx))
   have hCa:C≠a:=by
    rcases ha with rfl|ha
    · exact Ne.symm hlC
    · exact Ne.symm (hcC _ _ ha)
   refine⟨m',hn.sameBut hsb hCa,λh' hs' => ?_⟩;have hCn:upd H D' (.lst ys) C=none:=by rw [ZI (Ne.symm hDC)];exact hCf
   have I4:Inv X pins (σ.set i (some (.ref D'))) (upd H D' (.lst ys)) { s3 with heap:=h',toks:=s3.toks }:=I3.turned (it:=C) (λb o hb e=>(hs'.2 b hb).trans e) hCn (Ne.symm hlC) (.inr (Nat.le_trans (Nat.le_trans I2.ok.above (Nat.le_of_lt I2.lt)) hC)) (λy c e=>hcC y c e) λp hp z=>by
    have:=(I2.pin p hp).1;exact absurd (Heap.lt_size this) (Nat.not_lt.mpr (z▸hC))
   exact⟨_,_,I4,qn D' pd.2.1⟩
 · exact .inr r
end
end L2
namespace L2
open PySem PySem.Spec PyProof.Rows Builtin Builtin.Str
section
variable{X:Cx}
end
end L2
namespace DL
open PySem PySem.Spec L2
variable{cA:Kn}
end DL
namespace PySem
open Builtin SmallTypes
open AutoSeq1 (wpAny_loadPart')
end PySem
namespace PySem
open Sem (wp)
end PySem
namespace PySem
open Sem (wp)
section
variable{P:Program}{w:World}{A:Around}{E:Value->Shared->Prop}{s:Shared}
end
end PySem
namespace L2
open PySem PySem.Spec PyProof.Rows
end L2
namespace L2
open PySem PySem.Spec PyProof.Rows
section
variable{X:Cx}{elts:List Expr}{x1:Nat}{tpos:Pos}
end
end L2
namespace DL
open PySem PySem.Spec L2
section
variable{cA:Kn}{G:Cn}{ow:List Nat}
end
end DL
namespace PySem
open Builtin SmallTypes
open AutoSeq1 (wpAny_loadPart')
end PySem
namespace PySem
section
variable{P:Program}{w:World}{A:Around}{E:Value->Shared->Prop}{s:Shared}
end
end PySem
namespace L2
open PySem PySem.Spec PyProof.Rows
section
variable{X:Cx}{elts:List Expr}{x1:Nat}{tpos:Pos}
end
end L2
namespace DL
open PySem PySem.Spec L2
section
variable{cA:Kn}{G:Cn}{ow:List Nat}
end
end DL
namespace DL
open PySem PySem.Spec L2 PyProof.Rows
def Wd(i:Int):Prop:=i.natAbs<2 ^ 8000
instance (i:Int):Decidable (Wd i):=by unfold Wd;infer_instance
def CMulW(i j:Int):Prop:=(Wd i/\Wd j)\/CMul i j
instance (i j:Int):Decidable (CMulW i j):=by unfold CMulW;infer_instance
def UZ(_ j:Int):Prop:=j≠0/\Wd j
instance (i j:Int):Decidable (UZ i j):=by unfold UZ;infer_instance
instance (i j:Int):Decidable (Zla i j):=by unfold Zla;infer_instance
theorem Zgj{i:Int}(h:Wd i)(h0:i≠0):i.natAbs.log2<8000:=(Nat.log2_lt (by omega)).mpr h
theorem CMulW.ok{i j:Int}(h:CMulW i j):IntMulOk i j:=by
 rcases h with⟨h1,h2⟩|h
 · have bits : ∀ {a : Int}, Wd a -> Builtin.Int.intBits a <= 2 ^ 20 := fun {a} ha => by
    unfold Builtin.Int.intBits
    by_cases h0:a=0
    · subst h0;decide
    · have:=Zgj ha h0
      have e:(2:Nat) ^ 20=1048576:=by decide
      rw [e]
      split<;>omega
   exact .of_bits (bits h1) (bits h2)
 · exact h.ok
section
variable{X:Cx}{cA:Kn}
theorem op_mulW:OpR X (binaryOp .Mult) (rI CMulW λi j => .int (i*j)):=opI λ_ _ _ _ _ _ _ hc q=>mul_int q hc.ok
theorem VL:OpR X (binaryOp .FloorDiv) (rI UZ λi j => .int (i.fdiv j)):=opI λ_ _ _ _ _ _ _ hc q=>floordiv_int hc.1 q (.inl (PyProof.noPylong_of_log2 (Nat.lt_trans (Zgj hc.2 hc.1) (by decide))))
def fdivW:D->D->Option D
 | .int i,.int j=>if UZ i j then some (.int (i.fdiv j))else none
 |_,_=>none
def modW:D->D->Option D
 | .int i,.int j=>if j≠0 then some (.int (i.fmod j))else none
 |_,_=>none
theorem Ziu{C:Int->Int->Prop} [∀i j,Decidable (C i j)]{g:Int->Int->Int}{f:D->D->Option D}(hf:∀x y d,f x y=some d->∃i j,x = .int i/\y = .int j/\C i j/\d = .int (g i j)):Xk cA (rI C λi j => .int (g i j)) f:=λt t' i H x y vx vy d _ hx hy e Q k=>by
 obtain⟨a,b,rfl,rfl,hc,rfl⟩:=hf x y d e;cases(show vx=_ from hx);cases(show vy=_ from hy);exact⟨_,_,rfl,rfl,hc,k _ H (Same.refl H) rfl⟩
theorem VN:Xk cA (rI UZ λi j => .int (i.fdiv j)) fdivW:=Ziu λx y d e=>by
 cases x<;>cases y<;>first|(cases e;done)|skip
 rename_i a b;dsimp only [fdivW]at e
 by_cases hz:UZ a b
 · rw [if_pos hz]at e;cases e;exact⟨_,_,rfl,rfl,hz,rfl⟩
 · rw [if_neg hz]at e;cases e
theorem Y5:Xk cA (rI (λ_ j=>j≠0) λi j => .int (i.fmod j)) modW:=Ziu λx y d e=>by
 cases x<;>cases y<;>first|(cases e;done)|skip
 rename_i a b;dsimp only [modW]at e
 by_cases hz:b≠0
 · rw [if_pos hz]at e;cases e;exact⟨_,_,rfl,rfl,hz,rfl⟩
 · rw [if_neg hz]at e;cases e
end
end DL
namespace L2
open PySem PySem.Spec PySem.W PyProof.Rows
def bmV:List Value:=[.type "ValueError",.type "Exception",.type "BaseException",.type "object"]
section
variable{X:Cx}{E:XK}{C:Addr}{x:Str}{p cpos pos:Pos}{e:Expr}{es:List Expr}{t:TA}
end
def CX1(P:Program)(w:World):CXT:=λouter H s E ev s'=>∃(ea:Addr) (cls a0:Value) (B:Heap) (H':Hp),ev = .ref ea/\s'.os=s.os/\AllBare s'.gens/\Heap.FlyingW B outer ea cls a0 s'.heap /\
 (∀b o,s.heap.get? b=some o->H b=none->b∉frs outer->B.get? b=some o)/\HOk P w H' B/\Same H H'/\(∀b o,s.heap.get? b=some o->H b=none->H' b=none)/\(∀b o,s.heap.get? b=some o->b∈frs outer->∃sl,s'.heap.get? b=some { o with slots:=sl })/\E cls none H'
section
variable{P:Program}{w:World}{K:PySem.W.Frag}{mg:Str->Option Value}{base:Heap}{N:List Str}{qual:Str}{scope:Scope}{f:Addr}{cd:Value}{A:Around}{outer:List Env}{s:Shared}{H:Hp}{E:XK}
end
end L2
namespace L2
open PySem PySem.Spec PySem.W PyProof.Rows PySem.Calls PySem.Builtin PySem.Builtin.ObjectAttr PySem.Builtin.Getset_descriptor
def Zka(e:Addr)(C:Value)(hp:Heap):Prop:=∃o:Obj,hp.get? e=some o/\o.cls=C
structure ExCls(K:PySem.W.Frag)(C:Addr):Prop where
 ex:excIn K C bmV "ValueError.__new__" = true
 ga:findIn K (.ref C) "__getattribute__" = some (some (.builtin "BaseException.__getattribute__"))
 mb:mroIn K C (.type "BaseException")=some true
 gt:findIn K (.ref C) "__getattr__" = some none
 ca:findIn K (.ref C) "__class__" = some (some (.builtin "object.__class__"))
 cg:specialIn K (.builtin "object.__class__") "__get__" = some (some (.builtin "getset_descriptor.__get__"))
 ct:takesIn K (.builtin "object.__class__")=some true
 mo:mroIn K C (.type "object")=some true
 cl:(clsIn K C).isSome=true
section
variable{P:Program}{w:World}{A:Around}{E:Value->Shared->Prop}{s:Shared}{K:PySem.W.Frag}{e C:Addr}
end
end L2
namespace L2
open PySem PySem.Spec PySem.W PyProof.Rows
theorem ObjOk.there{P:Program}{w:World}{H:Hp}{hp:Heap}{a:Addr}{o:HO}(x:ObjOk P w H hp a o):∃u,hp.get? a=some u:=by
 cases o with
 |lst xs=>obtain⟨_,_,_,_,e⟩:=x;exact⟨_,e⟩
 |tup xs=>obtain⟨_,_,_,ob,e,_⟩:=x;exact⟨_,e⟩
 |dK kvs=>obtain⟨_,_,_,_,o,_,_,e,_⟩:=x;exact⟨_,e⟩
 |dT kvs=>obtain⟨_,_,_,_,o,_,_,e,_⟩:=x;exact⟨_,e⟩
 |set S n=>obtain⟨o,_,_,_,e,_⟩:=x;exact⟨_,e⟩
 |ins C dx fs=>obtain⟨_,_,_,e,_⟩:=x;exact⟨_,e⟩
 |own y=>exact x
 |xd fs=>obtain⟨_,⟨_,_,_,e,_⟩,_⟩:=x;exact⟨_,e⟩
 |rng lo hi=>obtain⟨_,_,_,e⟩:=x;exact⟨_,e⟩
 |frz ob u=>obtain⟨e,_⟩:=x;exact⟨_,e⟩
 |tbl ps=>exact⟨_,x⟩
 |met f y=>exact⟨_,x⟩
 |ext φ=>exact x.2.1
section
variable{X:Cx}{pins:List (Addr×Obj)}{σ:St}{H H':Hp}{s s':Shared}{B hp:Heap}{ea:Addr}{C:Value}
end
section
variable{X:Cx}{E:XK}
end
end L2
namespace L2
open PySem PySem.Spec PySem.W PyProof.Rows
section
variable{X:Cx}{G:Addr}{g n:Str}{i:Nat}{body suite:List Stmt}{b₀:Stmt}{gp hpos pos:Pos}{tb:XK->TS}{ts:Addr->Addr->TS}
end
end L2
namespace DL
open PySem PySem.Spec L2
def spX(cA:Kn)(n:Nat)(m:List D->Option D)(x:List D->Option String):Sp:=λvs H Q E=>spD cA n m vs H Q E \/
 ∃(av:Addr->Prop) (ds:List D) (c:String),(∀a,av a->H a≠none)/\RepL cA av H ds vs/\ds.length=n/\x ds=some c/\∀H',Same H H'->E (.ref (cA.c c)) none H'
def VX(G:Cn)(ow:List Nat)(E:XK)(ts:TS)(χ:Env->Option String):Prop:=
 ∀H0 av A σ H δ,ER G ow H0 av A σ H δ->∀c,χ δ=some c->(∀H',Same H0 H'->E (.ref (G.1.c c)) none H')->∀De:Ends,ts De σ H
section
variable{cA:Kn}{G:Cn}{ow ow1 owB owC owN:List Nat}{E:XK}
end
section
variable{P:Program}{w:World}{K:PySem.W.Frag}{mg:Str->Option Value}{base:Heap}{cA:Kn}
end
end DL
namespace DL
open PySem PySem.Spec L2
def ZlL(K:PySem.W.Frag)(cA:Kn)(v:V)(tab:List (String×Bool)):Prop:=∀c b,tab.lookup c=some b->∃cv,(∀u,RelV v u->u=cv)/\kitOne K (.ref (cA.c c)) cv=some b
inductive IsiEs(K:PySem.W.Frag)(cA:Kn):List V->List (List (String×Bool))->Prop where
 |nil:IsiEs K cA [] []
 |cons {v:V} {t:List (String×Bool)} {vs:List V} {ts:List (List (String×Bool))}:ZlL K cA v t->IsiEs K cA vs ts->IsiEs K cA (v::vs) (t::ts)
section
variable{cA:Kn}{G:Cn}{ow owB owC:List Nat}
theorem ER.none{H0 H:Hp}{av:Addr->Prop}{A:Nat->Option Addr}{σ:L2.St}{δ:Env}{i:Nat}{x:Option V}(R:ER G ow H0 av A σ H δ)(hi:ow.contains i=false)(hn:G.2 i=Option.none):ER G ow H0 av A (σ.set i x) H (δ.set i Option.none):=
 ⟨R.same,R.avd,R.fr,R.inj,R.live,R.dom,R.dom',by rw [List.length_set,List.length_set];exact R.len,R.pin,(λj v' e=>by
   have q:j≠i:=λz=>by rw [z,hn]at e;cases e
   rw [List.getElem?_set_ne (Ne.symm q)];exact R.kept j v' e),λj d e=>by
   have hj:j≠i:=by
    intro z;subst z
    by_cases hl:j<δ.length
    · rw [List.getElem?_set_self hl]at e;cases e
    · rw [List.getElem?_eq_none (by rw [List.length_set];omega)]at e;cases e
   rw [List.getElem?_set_ne (Ne.symm hj)]at e;obtain⟨v,h1,h2⟩:=R.var j d e;exact⟨v,by rw [List.getElem?_set_ne (Ne.symm hj)];exact h1,h2⟩⟩
end
end DL
namespace L2
open PySem PySem.Spec PyProof.Rows
section
variable{X:Cx}
def Ziv(K:PySem.W.Frag):R2:=λx y H Q=>∃l b xs zs,x = .ref l/\y = .ref b/\SqL K H l xs/\SqL K H b zs/\xs.length+zs.length<=sizeLine/\∀p,H p=none->Q (.ref p) (upd H p (.lst (xs++zs)))
theorem Zho:OpR X (binaryOp .Add) (Ziv X.K):=by
 intro pins s σ H x y v u Q I rx ry h;obtain⟨l,b,xs,zs,rfl,rfl,hH,hB,hz,q⟩:=h;cases rx;cases ry;obtain⟨its,r,pl,_⟩:=I.list hH;obtain⟨its2,r2,pl2,_⟩:=I.list hB;obtain⟨⟨c1,d1,da1,sl1⟩,n1,g1,e1,e2,e3⟩:=pl;obtain⟨⟨c2,d2,da2,sl2⟩,n2,g2,f1,f2,f3⟩:=pl2;dsimp only at e1 e2 e3 f1 f2 f3;subst e1 e2 e3 f1 f2 f3;have hl:=r.length;have hl2:=r2.length;refine concat_meets ⟨_,g1,rfl⟩ ⟨_,g2,rfl⟩ noFill_list_add seq_list_add PySem.F.slot_list_add PySem.F.entry_list_add (PySem.F.args_list_add_2 _ _) (list_addW l b its.toArray its2.toArray n1 n2 none none sl1 sl2 (by rw [List.size_toArray,List.size_toArray];omega)) ⟨g1,g2,?_⟩
 have ea:its.toArray++its2.toArray=(its++its2).toArray:=by simp
 rw [ea];exact⟨.ref _,_,I.lnew (t':=s.toks) (r.append r2) (by rw [List.length_append];omega),rfl,q _ I.fresh⟩
def Ziw(K:PySem.W.Frag):R2:=λx y H Q=>∃l k xs,x = .ref l/\y = .int k/\SqL K H l xs /\ -(2 ^ 63)<=k/\k<2 ^ 63/\xs.length*k.toNat<=sizeLine/\∀p,H p=none->Q (.ref p) (upd H p (.lst (List.replicate k.toNat xs).flatten))
theorem Zhp:OpR X (binaryOp .Mult) (Ziw X.K):=by
 intro pins s σ H x y v u Q I rx ry h;obtain⟨l,k,xs,rfl,rfl,hH,h1,h2,hz,q⟩:=h;cases rx;obtain⟨t,rfl⟩:=ry;obtain⟨its,r,pl,_⟩:=I.list hH;obtain⟨⟨c1,d1,da1,sl1⟩,n1,g1,e1,e2,e3⟩:=pl;dsimp only at e1 e2 e3;subst e1 e2 e3;have hl:=r.length;have hlen:its.toArray.size*k.toNat<=sizeLine:=by rw [List.size_toArray,<-hl];exact hz
 have hcap:¬its.toArray.size*k.toNat>(2 ^ 63-1) / 8:=by
  have:(sizeLine:Nat)<=(2 ^ 63-1) / 8:=by decide
  omega
 have hfit:¬(!Builtin.List.listFitsIndex k)=true:=by
  rw [fitsIndex_both h1 h2];exact Bool.false_ne_true
 have hlong:¬Builtin.List.listTooLong (its.toArray.size*k.toNat)=true:=by
  rw [Zfa hlen];exact Bool.false_ne_true
 have hnew:List.foldl (λx1 x2=>x1++x2) #[] (List.replicate (if its.toArray.isEmpty=true then 0 else k.toNat) its.toArray)=(List.replicate k.toNat its).flatten.toArray:=by
  have f0:∀m:Nat,List.foldl (λx1 x2=>x1++x2) #[] (List.replicate m its.toArray)=(List.replicate m its).flatten.toArray:=λm=>by
   have:=Zbk its m [];rw [List.nil_append]at this;exact this
  rw [f0];cases its with
  |nil=>simp
  |cons a r'=>rw [if_neg (by simp)]
 refine wpAny_binaryOp_repeat_ref (T:="list") (U:="int") (by decide) ⟨_,g1,rfl⟩ (λs'=>typeIs_int s' k t) noFill_list_mul F.fills_int_mul F.slot_int_rmul repeat_list F.slot_int_index.lookup
  (call_meets F.slot_int_rmul (typeIs_int s k t) F.entry_int_rmul (F.args_int_rmul_2 _ _) (lm_int_rmul_list_any k t l its.toArray n1 none sl1)
    ⟨g1,rfl,⟨_,g1,rfl⟩,call_meets F.slot_list_mul ⟨_,g1,rfl⟩ F.entry_list_mul (F.args_list_mul_2 _ _) (lm_list_mul_any l its.toArray n1 none sl1 k t hfit hcap hlong) ⟨g1,?_⟩⟩)
 rw [hnew];exact⟨.ref _,_,I.lnew (t':=s.toks) (r.rep k.toNat) (by rw [Zhd,Nat.mul_comm];exact hz),rfl,q _ I.fresh⟩
def Qq(K:PySem.W.Frag):R2:=λx y H Q=>rI0 (λi j => .int (i+j)) x y H Q\/rAddS x y H Q\/Ziv K x y H Q
theorem Zhq:OpR X (binaryOp .Add) (Qq X.K):=op_add.or (op_addS.or Zho)
theorem Yj{K:PySem.W.Frag}(hK:X.K=K:=by rfl):OpR X (binaryOp .Add) (Qq K):=hK▸Zhq
def Q6(K:PySem.W.Frag):R2:=λx y H Q=>rI DL.CMulW (λi j => .int (i*j)) x y H Q\/DL.rMulS x y H Q\/Ziw K x y H Q
theorem Zhr:OpR X (binaryOp .Mult) (Q6 X.K):=DL.op_mulW.or (DL.op_mulS.or Zhp)
theorem Q7{K:PySem.W.Frag}(hK:X.K=K:=by rfl):OpR X (binaryOp .Mult) (Q6 K):=hK▸Zhr
end
end L2
namespace DL
open PySem PySem.Spec L2
section
variable{cA:Kn}{G:Cn}{ow owB owC:List Nat}
theorem ZdT{i:Addr->Prop}{H:Hp}{p:Addr}{xs:List D}{vs:List V}(hi:∀a,i a->H a≠none)(hp:H p=none)(l:RepL cA i H xs vs):Rep cA i (upd H p (.lst vs)) (.lst xs) (.ref p):=by
 unfold Rep;exact⟨p,vs,rfl,λz=>(hi p z hp).elim,SqL.of ZN,l.same (ZU hp)⟩
def addX:D->D->Option D
 | .lst a,.lst b=>if a.length+b.length<=sizeLine then some (.lst (a++b))else none
 |x,y=>addD x y
theorem YI:Xk cA (Qq cA.K) addX:=λt t' i H x y vx vy d hi hx hy e Q k=>by
 have old:addD x y=some d->Qq cA.K vx vy H Q:=λe=>by
  rcases(Zja (cA:=cA) t t' i H x y vx vy d hi hx hy e Q k)with h|h|h
  · exact .inl h
  · exact .inr (.inl h)
  · obtain⟨l,b,xs,zs,e1,e2,h1,h2,h3,h4⟩:=h
    exact .inr (.inr ⟨l,b,xs,zs,e1,e2,SqL.of h1,SqL.of h2,h3,h4⟩)
 cases x with
 |lst a=>
  cases y with
  |lst b=>
   dsimp only [addX]at e
   by_cases hz:a.length+b.length<=sizeLine
   · rw [if_pos hz]at e
     cases e;obtain⟨a1,vs1,rfl,_,r1,l1⟩:=hx;obtain⟨a2,vs2,rfl,_,r2,l2⟩:=hy;exact .inr (.inr ⟨a1,a2,vs1,vs2,rfl,rfl,r1,r2,by rw [<-l1.length,<-l2.length];exact hz,λp hp=>k _ _ (ZU hp) (ZdT hi hp (l1.append l2))⟩)
   · rw [if_neg hz]at e;cases e
  |_=>exact old e
 |_=>exact old e
theorem RepL.rep{av:Addr->Prop}{H:Hp}{xs:List D}{vs:List V}(l:RepL cA av H xs vs):∀n:Nat,RepL cA av H (List.replicate n xs).flatten (List.replicate n vs).flatten
 |0 => .nil
 |n+1=>by
  rw [List.replicate_succ,List.replicate_succ,List.flatten_cons,List.flatten_cons];exact l.append (RepL.rep l n)
def mulX:D->D->Option D
 | .int i,.int j=>if CMulW i j then some (.int (i*j))else none
 | .str a,.int n=>if n<2 ^ 63 /\ -(2 ^ 63)<=n/\a.length*n.toNat<=sizeLine then some (.str (UT a n))else none
 | .lst a,.int n=>if n<2 ^ 63 /\ -(2 ^ 63)<=n/\a.length*n.toNat<=sizeLine then some (.lst (List.replicate n.toNat a).flatten)else none
 |_,_=>none
theorem ZbR:Xk cA (Q6 cA.K) mulX:=λt t' i H x y vx vy d hi hx hy e Q k=>by
 cases x<;>cases y<;>first|(cases e;done)|skip
 · cases(show vx=_ from hx);cases(show vy=_ from hy)
   rename_i a b;dsimp only [mulX]at e
   by_cases hz:CMulW a b
   · rw [if_pos hz]at e
     cases e;exact .inl ⟨_,_,rfl,rfl,hz,k _ H (Same.refl H) rfl⟩
   · rw [if_neg hz]at e;cases e
 · cases(show vx=_ from hx);cases(show vy=_ from hy)
   rename_i a n;dsimp only [mulX]at e
   by_cases hz:n<2 ^ 63 /\ -(2 ^ 63)<=n/\a.length*n.toNat<=sizeLine
   · rw [if_pos hz]at e
     cases e;exact .inr (.inl ⟨_,_,rfl,rfl,hz,k _ H (Same.refl H) rfl⟩)
   · rw [if_neg hz]at e;cases e
 · rename_i a n
   cases(show vy=_ from hy);dsimp only [mulX]at e
   by_cases hz:n<2 ^ 63 /\ -(2 ^ 63)<=n/\a.length*n.toNat<=sizeLine
   · rw [if_pos hz]at e
     cases e;obtain⟨a1,vs1,rfl,_,r1,l1⟩:=hx;exact .inr (.inr ⟨a1,n,vs1,rfl,rfl,r1,hz.2.1,hz.1,by rw [<-l1.length];exact hz.2.2,λp hp=>k _ _ (ZU hp) (ZdT hi hp (l1.rep n.toNat))⟩)
   · rw [if_neg hz]at e;cases e
def Xw(i:Nat)(κ ε:Env->Option D)(δ:Env):Option Out:=match ε δ with
 |some d=>match Za i δ with
  |some (.lst xs)=>match κ δ with
   |some (.int k)=>match ixN xs.length k with
    |some j=>some (.nx (δ.set i (some (.lst (xs.set j d)))))
    |none=>none
   |_=>none
  |_=>none
 |none=>none
theorem ZbS{te ti:TE}{q:Ql}{ε κ:Env->Option D}(i:Nat)(hi:ow.contains i=true)(h:VE G ow te .cl ε)(hk:VE G ow ti q κ):VS G ow ow owB owC (XU te (Zk8 (Yy i) ti rSetL)) (Xw i κ ε):=λH0 av A σ H δ E o e De k=>by
 unfold Xw at e;cases he:ε δ with
 |none=>rw [he]at e;cases e
 |some d=>
  rw [he]at e;dsimp only at e;cases hv:Za i δ with
  |none=>rw [hv]at e;cases e
  |some x=>
   rw [hv]at e;cases x<;>first|(cases e;done)|skip
   rename_i xs;dsimp only at e;cases hq:κ δ with
   |none=>rw [hq]at e;cases e
   |some y=>
    rw [hq]at e;cases y<;>first|(cases e;done)|skip
    rename_i n;dsimp only at e;cases hj:ixN xs.length n with
    |none=>rw [hj]at e;cases e
    |some j=>
     rw [hj]at e;cases e;have hi':i∈ow:=by simpa using hi
     cases hA:A i with
     |none=>exact absurd hA (E.dom' i hi')
     |some a=>
      refine h H0 av A σ H δ E d he _ λv H1 s1 r1 => ?_
      have E1:=E.mono s1;obtain⟨v0,h1,_,h3⟩:=E1.var i _ (Xa hv);obtain⟨rfl,vs,q1,q2⟩:=h3 a hA;refine⟨_,h1,hk H0 av A σ H1 δ E1 _ hq _ λy H2 s2 r2 => ?_⟩;have ey:y = .int n:=r2.any;subst ey;have E2:=E1.mono s2;have q1':=s2 _ _ q1;refine⟨a,vs,n,j,rfl,rfl,q1',by rw [<-q2.length];exact hj,k A σ _ (E2.put hA (Xa hv) (λb o hb e=>by rw [ZI hb];exact e) (by rw [ZN];exact λz=>by cases z) ⟨_,ZN,?_⟩)⟩
      have ex:∀b o,¬AV av A b->H2 b=some o->upd H2 a (.lst (vs.set j v)) b=some o:=λb o nb e=>by
       rw [ZI λz=>nb (.inr ⟨i,by rw [z];exact hA⟩)];exact e
      exact(((q2.same s2).set ((RepT.r r1).same s2) j)).ext ex
end
end DL
namespace L2
open PySem PySem.W
end L2
namespace DL
open L2
theorem VX.frz{G:Cn}{ow ow1:List Nat}{E:XK}{t:TS}{χ:Env->Option String}(i:Nat)(h:VX G ow1 E t χ)(hn:G.2 i=none)(h1:sub ow1 ow=true)(h2:ow1.contains i=false)(h3:sub ow (i::ow1)=true):VX G ow E t χ:=λH0 av A σ H δ R c e k De=>
 h H0 av _ σ H δ (R.freeze i (Zau h1 h2 h3) hn) c e k De
end DL
namespace L2
open PySem
end L2
namespace L2
open PySem
end L2
namespace L2
open PySem PySem.Spec PySem.W PyProof.Rows
section
variable{X:Cx}{e:Expr}{te:TE}{pos:Pos}
inductive PJ(X:Cx):List Expr->List TE->Prop where
 |nil:PJ X [] []
 |cons {e:Expr} {es:List Expr} {t:TE} {ts:List TE}:PE X e t->PJ X es ts->PJ X (e::es) (t::ts)
end
end L2
namespace DL
open PySem PySem.Spec L2
section
variable{G:Cn}{ow:List Nat}
inductive VJ(G:Cn)(ow:List Nat):List TE->List (Env->Option D)->Prop where
 |nil:VJ G ow [] []
 |cons {t:TE} {a:Env->Option D} {ts:List TE} {as:List (Env->Option D)}:VE G ow t .cl a->VJ G ow ts as->VJ G ow (t::ts) (a::as)
end
end DL
namespace L2
open PySem PySem.Spec PySem.W PyProof.Rows
section
variable{X:Cx}{E:XK}
end
end L2
namespace DL
open PySem PySem.Spec L2
abbrev XTab:=List (String×(Nat×(List D->Option D)×(List D->Option String)))
structure MethOkX(X:Cx)(cA:Kn)(k:Nat)(m:String)(c:String)(n:Nat)(mm:List D->Option D)(xm:List D->Option String):Prop where
 ex:∃f fd ps,Cls X.K (cA.c c)/\Meth X.K (cA.c c) (Str.ofString m) f/\FnOk X.prog X.w X.K X.mg X.base (CX1 X.prog X.w) k f fd ps (spX cA n mm xm)/\Binds X.K fd ps []
def MTOkX(X:Cx)(cA:Kn)(k:Nat)(m:String):XTab->Prop
 | []=>True
 |(c,n,mm,xm)::r=>MethOkX X cA k m c n mm xm/\MTOkX X cA k m r
theorem MTOkX.get{X:Cx}{cA:Kn}{k:Nat}{m:String}:∀{tab:XTab}{c:String}{n:Nat}{mm:List D->Option D}{xm:List D->Option String},MTOkX X cA k m tab->tab.lookup c=some (n,mm,xm)->MethOkX X cA k m c n mm xm
 | [],_,_,_,_,_,h=>by simp at h
 |(c',n',mm',xm')::r,c,n,mm,xm,T,h=>by
  rw [List.lookup_cons]at h;cases hc:c == c' with
  |true=>
   rw [hc]at h;cases h;have:c=c':=eq_of_beq hc;subst this;exact T.1
  |false=>
   rw [hc]at h;exact MTOkX.get T.2 h
section
variable{X:Cx}{cA:Kn}{k:Nat}{m:String}{tab:XTab}{o e:Expr}{es:List Expr}{ta:TE}{t:TA}{pos apos:Pos}{pl:Sem Bool}{E:XK}
end
section
variable{cA:Kn}{G:Cn}{ow ow1 owB owC owN:List Nat}{E:XK}
end
end DL
namespace L2
open PySem PySem.Spec PySem.W PyProof.Rows
theorem ZaV:∀(cs:List Nat)(its:List Value),its.length=cs.length->(∀(j:Nat)(v:Value),its[j]? = some v->∃(c:Nat) (u:Tok),cs[j]? = some c/\v=Value.str ⟨#[c]⟩ u)->Vals (cs.map λc=>S [c]) its
 | [],[],_,_ => .nil
 |c::cs,[],h,_=>by simp at h
 | [],v::its,h,_=>by simp at h
 |c::cs,v::its,h,k=>by
  refine .cons ?_ (ZaV cs its (by simpa using h) λj v hj=>by simpa using k (j+1) v (by simpa using hj));obtain⟨c',u,e1,e2⟩:=k 0 v rfl;cases e1;exact⟨u,e2⟩
def Zix(K:PySem.W.Frag):List V->Hp->VK->Prop:=λxs H Q=>Zi7 K xs H Q\/∃cs,xs=[S cs]/\cs.length<=sizeLine/\∀l,H l=none->Q (.ref l) (upd H l (.lst (cs.map λc=>S [c])))
theorem Uk{X:Cx}{K:PySem.W.Frag}(hc:X.calm=true:=by rfl)(hK:X.K=K:=by rfl):Z6 X (.type "list") (Zix K):=by
 subst hK;intro pins s σ H xs us Q I r h;rcases h with h|⟨cs,rfl,hz,q⟩
 · exact ZbK pins s σ H xs us Q I r h
 · obtain⟨u,rfl,rx⟩:=YV r
   obtain⟨t,rfl⟩:=rx;refine call_list_str (I.ok.hd hc) (tx cs) t (λh' tk acc' c' kp e hi => ?_) (by simpa using hz)
   have hv:Vals (cs.map λc=>S [c]) acc'.toList:=ZaV cs _ (by simpa using hi.1) λj v hj=>by
    obtain⟨c,u,e1,e2⟩:=hi.2 j v (by simpa using hj);exact⟨c,u,by simpa using e1,e2⟩
   exact⟨.ref s.heap.objs.size,_,I.laid (t':=tk) kp (Nat.le_refl _) (show ObjOk X.prog X.w _ h' _ (.lst _)from⟨by rw [List.length_map];exact hz,acc'.toList,c',hv,e⟩),rfl,q _ (I.hok.fresh (Nat.le_refl _))⟩
end L2
namespace DL
open PySem PySem.Spec L2
def YJ:List D->Option D
 | [.str cs]=>if cs.length<=sizeLine then some (.lst (cs.map λc => .str [c]))else none
 |ds=>Zio ds
section
variable{G:Cn}{ow:List Nat}
theorem ZaW{cA:Kn}{av:Addr->Prop}{H:Hp}:∀cs:List Nat,RepL cA av H (cs.map λc=>D.str [c]) (cs.map λc=>S [c])
 | [] => .nil
 |c::cs => .cons rfl (ZaW cs)
theorem Ul{t:TA}{q:Ql}{α:Env->Option (List D)}(hq:q = .cl\/q = .tp)(h:VA G ow t q α):VF G ow (tCB (Zix G.1.K) t) (eCB YJ α):=λH0 av A σ H δ E d e Q k=>by
 unfold eCB at e;cases he:α δ with
 |none=>rw [he]at e;cases e
 |some ds=>
  rw [he]at e;replace e:YJ ds=some d:=e;unfold YJ at e
  split at e
  · rename_i cs
    by_cases hz:cs.length<=sizeLine
    · rw [if_pos hz]at e
      cases e;refine h H0 av A σ H δ E _ he _ λvs H1 s1 r1 => ?_
      have il:Ux G.1 (AV av A) H1 [.str cs] vs:=by
       rcases hq with rfl|rfl<;>exact r1.il
      obtain⟨v,t,rfl,hx⟩:=il1 il;cases(show v=_ from hx);exact .inr ⟨cs,rfl,hz,λp hp=>k p _ _ H1 s1 hp (ZaW cs) rfl⟩
    · rw [if_neg hz]at e;cases e
  · exact h H0 av A σ H δ E _ he _ fun vs H1 s1 r1 => by
     have il:Ux G.1 (AV av A) H1 ds vs:=by
      rcases hq with rfl|rfl<;>exact r1.il
     refine .inl ?_;unfold Zio at e
     split at e
     · rename_i xs
       cases e;obtain⟨v,t,rfl,a,ws,rfl,_,rd,l⟩:=il1 il;exact⟨a,ws,rfl,.inl rd,λp hp=>k p ws _ H1 s1 hp l rfl⟩
     · rename_i xs
       cases e;obtain⟨v,t,rfl,a,ws,rfl,_,rd,l⟩:=il1 il;exact⟨a,ws,rfl,.inr (SqT.of rd),λp hp=>k p ws _ H1 s1 hp l rfl⟩
     · cases e
end
end DL
namespace L2
open PySem PySem.Spec PySem.W PyProof.Rows
structure RoomE(k:Nat)(A:Around):Prop where
 dp:A.depth+3*k+5<recursionLimit
 un:A.units+16*k+200<cLine
structure FnOkE(P:Program)(w:World)(K:PySem.W.Frag)(mg:Str->Option Value)(base:Heap)(k:Nat)(f:Addr)(fd:FuncData)(ps:List Str)(sp:List V->Hp->VK->Prop):Prop where
 len:∀vs H Q,sp vs H Q->vs.length=ps.length
 run:∀(A:Around)(outer:List PySem.Env)(s:Shared)(H:Hp)(args:Args)(us:List Value)(vs:List V)(Q:VK),RoomE k A->Env0 P w K mg base A outer s H->BindsTo s fd args (ps.zip us)->Vals vs us->sp vs H Q ->
  codeAny (model P w) A (.call (.ref f) args) (CR CX0 outer P w H s Q E0) s
end L2
namespace DL
open PySem PySem.Spec L2
def Zjd(K:PySem.W.Frag)(cA:Kn)(i:Nat)(mk:Addr->Addr->TE)(tab:List (String×Bool)):Prop:=∀(c:String)(b:Bool)(ea:Addr)(σ:L2.St)(H:Hp)(Q:VK),ExCls K (cA.c c)->tab.lookup c=some b->σ[i]? = some (some (.ref ea))->H ea=some (.ext (Zka ea (.ref (cA.c c))))->(∀H',Same H H'->Q (.bl b) H')->mk (cA.c c) ea σ H Q
inductive Items(K:PySem.W.Frag)(cA:Kn)(i:Nat):List (Addr->Addr->TE)->List (List (String×Bool))->Prop where
 |nil:Items K cA i [] []
 |cons {m:Addr->Addr->TE} {t:List (String×Bool)} {ms:List (Addr->Addr->TE)} {ts:List (List (String×Bool))}:Zjd K cA i m t->Items K cA i ms ts->Items K cA i (m::ms) (t::ts)
section
variable{cA:Kn}{G:Cn}{ow owB owC:List Nat}
end
end DL
namespace L2
open PySem PySem.Spec PyProof.Rows
section
variable{X:Cx}{elts:List Expr}{x1:Nat}{tpos:Pos}
end
end L2
namespace DL
open PySem PySem.Spec L2
section
variable{cA:Kn}{G:Cn}{ow:List Nat}
end
end DL
namespace DL
open PySem PySem.Spec L2
def mat(rows:List (List D)):D := .lst (rows.map D.lst)
structure Mx(H:Hp)(a:Addr)(bs:List Addr)(rows:List (List D)):Prop where
 top:H a=some (.lst (bs.map V.ref))
 len:bs.length=rows.length
 nd:bs.Nodup
 na:a∉bs
 row:∀(k:Nat)(b:Addr)(r:List D),bs[k]? = some b->rows[k]? = some r->H b=some (.lst (r.map val))
 sc:∀r∈rows,r.all ZA=true
section
variable{H H':Hp}{a:Addr}{bs:List Addr}{rows:List (List D)}
theorem Mx.mem(M:Mx H a bs rows){b:Addr}(h:b∈bs):∃r∈rows,H b=some (.lst (r.map val)):=by
 obtain⟨k,hk,e⟩:=List.mem_iff_getElem.mp h;have hk2:k<rows.length:=by rw [<-M.len];exact hk
 exact⟨rows[k],List.getElem_mem hk2,M.row k b _ (by rw [List.getElem?_eq_getElem hk,e]) (List.getElem?_eq_getElem hk2)⟩
theorem Mx.there(M:Mx H a bs rows){x:Addr}(h:x∈a::bs):∃vs,H x=some (.lst vs):=by
 rcases List.mem_cons.mp h with rfl|h
 · exact⟨_,M.top⟩
 · obtain⟨r,_,e⟩:=M.mem h
   exact⟨_,e⟩
theorem Mx.mono(M:Mx H a bs rows)(k:Same H H'):Mx H' a bs rows:=⟨k _ _ M.top,M.len,M.nd,M.na,λn b r h1 h2=>k _ _ (M.row n b r h1 h2),M.sc⟩
theorem Mx.rep{cA:Kn}{av:Addr->Prop}(M:Mx H a bs rows)(hn:∀x∈a::bs,¬av x):Rep cA av H (mat rows) (.ref a):=by
 have go:∀(bs:List Addr)(rows:List (List D)),bs.length=rows.length->(∀x∈bs,¬av x)->(∀(k:Nat)(b:Addr)(r:List D),bs[k]? = some b->rows[k]? = some r->H b=some (.lst (r.map val)))->(∀r∈rows,r.all ZA=true)->RepL cA av H (rows.map D.lst) (bs.map V.ref):=by
  intro bs
  induction bs with
  |nil=>
   intro rows hl _ _ _;cases rows with
   |nil=>exact .nil
   |cons _ _=>simp at hl
  |cons b bs ih=>
   intro rows hl hn hr hs;cases rows with
   |nil=>simp at hl
   |cons r rows=>
    refine .cons ?_ (ih rows (by simpa using hl) (λx hx=>hn x (List.mem_cons_of_mem _ hx)) (λk b r h1 h2=>hr (k+1) b r (by simpa using h1) (by simpa using h2)) λr hr=>hs r (List.mem_cons_of_mem _ hr));unfold Rep;exact⟨b,r.map val,rfl,λz=>(hn b List.mem_cons_self z).elim,SqL.of (hr 0 b r rfl rfl),.of_vals (hs r List.mem_cons_self)⟩
 unfold mat Rep;exact⟨a,bs.map V.ref,rfl,λz=>(hn a List.mem_cons_self z).elim,SqL.of M.top,go bs rows M.len (λx hx=>hn x (List.mem_cons_of_mem _ hx)) M.row M.sc⟩
end
open Classical in
noncomputable def ovl(H0 H:Hp)(F:List Addr):Hp:=λx=>if x∈F then H x else H0 x
theorem Xx{H0 H:Hp}{F:List Addr}{x:Addr}(h:x∈F):ovl H0 H F x=H x:=if_pos h
theorem Y6{H0 H:Hp}{F:List Addr}{x:Addr}(h:x∉F):ovl H0 H F x=H0 x:=if_neg h
abbrev Cn.keep(G:Cn)(i:Nat)(v:V):Cn:=⟨G.1,λj=>if j=i then some (.inr v)else G.2 j⟩
abbrev avF(av:Addr->Prop)(F:List Addr):Addr->Prop:=λx=>av x\/x∈F
def PinOk(G:Cn)(i:Nat)(σ:L2.St):Prop:=∀z,G.2 i=some z->∃v,z = .inr v/\σ[i]? = some (some v)
theorem PinOk.none{G:Cn}{i:Nat}{σ:L2.St}(h:G.2 i=Option.none):PinOk G i σ:=λz e=>by rw [h]at e;cases e
theorem PinOk.set{G:Cn}{i k:Nat}{σ:L2.St}{x:Option V}(h:PinOk G i σ)(hk:k≠i):PinOk G i (σ.set k x):=λz e=>by
 obtain⟨v,h1,h2⟩:=h z e;exact⟨v,h1,by rw [List.getElem?_set_ne hk];exact h2⟩
structure MR(G:Cn)(ow:List Nat)(i:Nat)(H0:Hp)(av:Addr->Prop)(A:Nat->Option Addr)(σ:L2.St)(H:Hp)(δ:Env):Prop where
 ni:i∉ow
 nn:PinOk G i σ
 avd:∀x,av x->H0 x≠none
 ex:∃a bs rows,δ[i]? = some (some (mat rows))/\Mx H a bs rows/\(∀x∈a::bs,H0 x=none)/\ER (G.keep i (.ref a)) ow (ovl H0 H (a::bs)) (avF av (a::bs)) A σ H (δ.set i none)
section
variable{cA:Kn}{G:Cn}{ow owN owB owC ow1:List Nat}{i:Nat}{H0 H H':Hp}{av:Addr->Prop}{A:Nat->Option Addr}{σ:L2.St}{δ:Env}
theorem U0{j:Nat}{v:V}(h:j≠i):(G.keep i v).2 j=G.2 j:=if_neg h
theorem U1{v:V}:(G.keep i v).2 i=some (.inr v):=if_pos rfl
theorem MR.view(R:MR G ow i H0 av A σ H δ):ER G ow H0 av A σ H δ:=by
 obtain⟨a,bs,rows,hd,M,h0,E⟩:=R.ex
 have nF:∀j x,A j=some x->x∉a::bs:=λj x e z=>by
  have:=E.fr j x e;rw [Xx z]at this;obtain⟨vs,q⟩:=M.there z;rw [q]at this;cases this
 have hAi:A i=none:=by
  cases q:A i with
  |none=>rfl
  |some x=>exact(R.ni (E.dom i (by rw [q];exact λz=>by cases z))).elim
 have less:∀b,AV av A b->AV (avF av (a::bs)) A b:=λb z=>z.elim (λz => .inl (.inl z)) .inr
 have hil:i<δ.length:=(List.getElem?_eq_some_iff.mp hd).1;refine⟨λb o e => ?_,R.avd,λj x e => ?_,E.inj,E.live,E.dom,E.dom',by rw [E.len,List.length_set],λj x e => ?_,λj v e => ?_,λj d e => ?_⟩
 · have nb:b∉a::bs:=λz=>by rw [h0 b z]at e;cases e
   exact E.same b o (by rw [Y6 nb];exact e)
 · have:=E.fr j x e
   rw [Y6 (nF j x e)]at this;exact this
 · have q : j ≠ i := fun z => by
    obtain⟨v,h1,_⟩:=R.nn _ (z▸e);cases h1
   exact E.pin j x (by rw [U0 q];exact e)
 · by_cases q:j=i
   · obtain⟨v',h1,h2⟩:=R.nn _ (q▸e)
     cases h1;rw [q];exact h2
   · exact E.kept j v (by rw [U0 q];exact e)
 · by_cases q:j=i
   · subst q
     rw [hd]at e;cases e;refine⟨.ref a,E.kept j _ U1,λ_=>M.rep λx hx z => ?_,λb z=>by rw [hAi]at z;cases z⟩;rcases z with z|⟨k,z⟩
     · exact R.avd x z (h0 x hx)
     · exact nF k x z hx
   · obtain⟨v,h1,h2,h3⟩:=E.var j d (by rw [List.getElem?_set_ne (Ne.symm q)];exact e)
     refine⟨v,h1,λz=>(h2 z).av λb z => .inl (less b z),λb z => ?_⟩;obtain⟨r1,r2⟩:=h3 b z;refine⟨r1,?_⟩;cases d with
     |lst xs=>obtain⟨vs,q1,q2⟩:=r2;exact⟨vs,q1,q2.av λb z => .inl (less b z)⟩
     |obj c ks xs=>obtain⟨dx,vs,q1,q0,q2⟩:=r2;exact⟨dx,vs,q1,q0,q2.av λb z => .inl (less b z)⟩
     |dct ks xs=>obtain⟨vs,q1,q0,q2⟩:=r2;exact⟨vs,q1,q0,q2.av λb z => .inl (less b z)⟩
     |dtt ks xs=>obtain⟨vs,q1,q0,q2⟩:=r2;exact⟨vs,q1,q0,q2.av λb z => .inl (less b z)⟩
     |_=>exact r2
theorem Za6{a:Addr}{bs:List Addr}{rows:List (List D)}(M:Mx H a bs rows)(k:Same H H'):ovl H0 H' (a::bs)=ovl H0 H (a::bs):=by
 funext x
 by_cases h:x∈a::bs
 · rw [Xx h,Xx h]
   obtain⟨vs,q⟩:=M.there h;rw [q,k _ _ q]
 · rw [Y6 h,Y6 h]
theorem MR.mono(R:MR G ow i H0 av A σ H δ)(k:Same H H'):MR G ow i H0 av A σ H' δ:=by
 obtain⟨a,bs,rows,hd,M,h0,E⟩:=R.ex;exact⟨R.ni,R.nn,R.avd,a,bs,rows,hd,M.mono k,h0,by rw [Za6 M k];exact E.mono k⟩
theorem MR.set{k:Nat}{d:D}(R:MR G ow i H0 av A σ H δ)(hs:ZA d=true)(hk:k≠i)(hw:∀j,j∈owN ↔ j∈ow/\j≠k)(hn:G.2 k=none):MR G owN i H0 av (λj=>if j=k then none else A j) (σ.set k (some (val d))) H (δ.set k (some d)):=by
 obtain⟨a,bs,rows,hd,M,h0,E⟩:=R.ex;refine⟨λz=>R.ni ((hw i).mp z).1,R.nn.set hk,R.avd,a,bs,rows,by rw [List.getElem?_set_ne hk];exact hd,M,h0,?_⟩;rw [List.set_comm _ _ hk];exact E.set (.of_val hs) hw (by rw [U0 hk];exact hn)
theorem MR.turn {a:Addr} {bs:List Addr} {rows rows':List (List D)} (ni:i∉ow) (nn:PinOk G i σ) (havd:∀x,av x->H0 x≠none) (hd:δ[i]? = some (some (mat rows))) (M:Mx H a bs rows) (h0:∀x∈a::bs,H0 x=none) (E:ER (G.keep i (.ref a)) ow (ovl H0 H (a::bs)) (avF av (a::bs)) A σ H (δ.set i none))
 (M':Mx H' a bs rows') (hk:∀x,x∉a::bs->H' x=H x):MR G ow i H0 av A σ H' (δ.set i (some (mat rows'))):=by
 have hil:i<δ.length:=(List.getElem?_eq_some_iff.mp hd).1
 have nF:∀j x,A j=some x->x∉a::bs:=λj x e z=>by
  have:=E.fr j x e;rw [Xx z]at this;obtain⟨vs,q⟩:=M.there z;rw [q]at this;cases this
 refine⟨ni,nn,havd,a,bs,rows',List.getElem?_set_self hil,M',h0,?_⟩;have e1:(δ.set i (some (mat rows'))).set i none=δ.set i none:=List.set_set ..;rw [e1];refine⟨λb o e => ?_,λx z => ?_,λj x e => ?_,E.inj,λj x e => ?_,E.dom,E.dom',E.len,E.pin,E.kept,λj d e => ?_⟩
 · by_cases h:b∈a::bs
   · rw [Xx h]at e;exact e
   · rw [Y6 h]at e
     rw [hk b h];exact E.same b o (by rw [Y6 h];exact e)
 · by_cases h:x∈a::bs
   · rw [Xx h]
     obtain⟨vs,q⟩:=M'.there h;rw [q];exact λz=>by cases z
   · rw [Y6 h]
     exact havd x (z.resolve_right h)
 · have:=E.fr j x e
   rw [Y6 (nF j x e)]at this ⊢;exact this
 · rw [hk x (nF j x e)]
   exact E.live j x e
 · have ex : ∀ b o, ¬ AV (avF av (a :: bs)) A b -> H b = some o -> H' b = some o := fun b o n e => by
    rw [hk b λz=>n (.inl (.inr z))];exact e
   obtain⟨v,h1,h2,h3⟩:=E.var j d e;refine⟨v,h1,λz=>(h2 z).ext ex,λb z => ?_⟩;obtain⟨r1,r2⟩:=h3 b z;refine⟨r1,?_⟩;cases d with
   |lst xs=>obtain⟨vs,q1,q2⟩:=r2;exact⟨vs,by rw [hk b (nF j b z)];exact q1,q2.ext ex⟩
   |obj c ks xs=>obtain⟨dx,vs,q1,q0,q2⟩:=r2;exact⟨dx,vs,by rw [hk b (nF j b z)];exact q1,q0,q2.ext ex⟩
   |dct ks xs=>obtain⟨vs,q1,q0,q2⟩:=r2;exact⟨vs,by rw [hk b (nF j b z)];exact q1,q0,q2.ext ex⟩
   |dtt ks xs=>obtain⟨vs,q1,q0,q2⟩:=r2;exact⟨vs,by rw [hk b (nF j b z)];exact q1,q0,q2.ext ex⟩
   |_=>exact r2
end
end DL
namespace DL
open PySem PySem.Spec L2
def WantsM(G:Cn)(owN owB owC:List Nat)(i:Nat)(H0:Hp)(av:Addr->Prop)(De:Ends):Out->Prop
 | .nx δ'=>∀A' σ' H',MR G owN i H0 av A' σ' H' δ'->De.nx σ' H'
 | .rt d=>∀v H',Same H0 H'->Rep G.1 av H' d v->De.rt v H'
 | .bk δ'=>∀A' σ' H',MR G owB i H0 av A' σ' H' δ'->De.bk σ' H'
 | .ct δ'=>∀A' σ' H',MR G owC i H0 av A' σ' H' δ'->De.ct σ' H'
def VM(G:Cn)(ow owN owB owC:List Nat)(i:Nat)(ts:TS)(φ:Env->Option Out):Prop:=
 ∀H0 av A σ H δ,MR G ow i H0 av A σ H δ->∀o,φ δ=some o->∀De:Ends,WantsM G owN owB owC i H0 av De o->ts De σ H
section
variable{cA:Kn}{G:Cn}{ow owN owB owC ow1:List Nat}{i:Nat}
theorem Zhs:VM G ow ow owB owC i tNext sNext:=λH0 av A σ H δ R o e De k=>by
 cases e;exact k A σ H R
theorem Qr{t u:TS}{φ ψ:Env->Option Out}(h1:VM G ow ow1 owB owC i t φ)(h2:VM G ow1 owN owB owC i u ψ):VM G ow owN owB owC i (V7 t u) (Zg φ ψ):=λH0 av A σ H δ R o e De k=>by
 unfold Zg at e;cases he:φ δ with
 |none=>rw [he]at e;cases e
 |some o1=>
  rw [he]at e;refine h1 H0 av A σ H δ R o1 he _ ?_;cases o1 with
  |nx δ'=>exact λA' σ' H' R'=>h2 H0 av A' σ' H' δ' R' o e De k
  |rt d=>cases e;exact k
  |bk δ'=>cases e;exact k
  |ct δ'=>cases e;exact k
theorem Zkb{c:TT}{t u:TS}{τ:Env->Option Bool}{φ ψ:Env->Option Out}(hc:VT G ow c τ)(h1:VM G ow owN owB owC i t φ)(h2:VM G ow owN owB owC i u ψ):VM G ow owN owB owC i (JQ c t u) (sIf τ φ ψ):=λH0 av A σ H δ R o e De k=>by
 unfold sIf at e;cases he:τ δ with
 |none=>rw [he]at e;cases e
 |some b=>
  rw [he]at e;refine hc H0 av A σ H δ R.view b he _ λH' s => ?_
  cases b with
  |true=>exact XY (h1 H0 av A σ H' δ (R.mono s) o e De k)
  |false=>exact XX (h2 H0 av A σ H' δ (R.mono s) o e De k)
def VIr(G:Cn)(ow:List Nat)(wi:TI)(ι:Env->Option (List D)):Prop:=
 ∀H0 av A σ H δ,ER G ow H0 av A σ H δ->∀xs,ι δ=some xs->∀R:It->Hp->Prop,(∀J H1,Same H H1->VC G.1 (λ_=>True) J xs (λ_=>none)->(∀x∈xs,ZA x=true)->R J H1)->wi σ H R
theorem ZdU{lo c:Int}{n:Nat}:∀x∈Z9 lo c n,ZA x=true:=λx hx=>by
 obtain⟨k,_,rfl⟩:=List.mem_map.mp hx;rfl
theorem Zfl{ta:TA}{q:Ql}{a:Env->Option (List D)}(h:VA G ow ta q a)(hl:∀δ ds,a δ=some ds->ds.length=1):VIr G ow (JU ta) (ZL a):=λH0 av A σ H δ E xs e R k=>by
 unfold ZL at e;cases he:a δ with
 |none=>rw [he]at e;cases e
 |some ds=>
  rw [he]at e;refine h H0 av A σ H δ E ds he _ λvs H1 s r => ?_
  have hln:=hl δ ds he
  split at e
  · rename_i j he2
    cases he2
    by_cases hz : -(2 ^ 62)<=j/\j<2 ^ 62
    · rw [if_pos hz]at e
      cases e;exact⟨j,ql1 r,hz.1,hz.2,k _ H1 s Q2 ZdU⟩
    · rw [if_neg hz]at e;cases e
  · rename_i he2;cases he2;simp at hln
  · rename_i he2;cases he2;simp at hln
  · cases e
theorem Zfm{ta:TA}{q:Ql}{a:Env->Option (List D)}(h:VA G ow ta q a)(hl:∀δ ds,a δ=some ds->ds.length=2):VIr G ow (JV ta) (ZL a):=λH0 av A σ H δ E xs e R k=>by
 unfold ZL at e;cases he:a δ with
 |none=>rw [he]at e;cases e
 |some ds=>
  rw [he]at e;refine h H0 av A σ H δ E ds he _ λvs H1 s r => ?_
  have hln:=hl δ ds he
  split at e
  · rename_i he2;cases he2;simp at hln
  · rename_i i j he2
    cases he2
    by_cases hz : -(2 ^ 62)<=i/\i<2 ^ 62 /\ -(2 ^ 62)<=j/\j<2 ^ 62
    · rw [if_pos hz]at e
      cases e;exact⟨i,j,ql2 r,hz,k _ H1 s Q2 ZdU⟩
    · rw [if_neg hz]at e;cases e
  · rename_i he2;cases he2;simp at hln
  · cases e
theorem Zgk{wi:TI}{tb:TS}{ι:Env->Option (List D)}{φ:Env->Option Out}(k':Nat)(hk:k'≠i)(hko:ow.contains k'=false)(hn:G.2 k'=none)(hi:VIr G ow wi ι)(hb:VM G ow ow ow ow i tb φ):VM G ow ow owB owC i (Vu wi (YU k') tb) (Z5 ι (Zm k') φ):=λH0 av A σ H δ R o e De k=>by
 unfold Z5 at e;cases he:ι δ with
 |none=>rw [he]at e;cases e
 |some xs=>
  rw [he]at e;have e:ZV (Zm k') φ xs δ=some o:=e;refine hi H0 av A σ H δ R.view xs he _ λJ H1 s1 W hsc => ?_
  refine⟨λj m σ' H'=>m=xs.length-j/\j<=xs.length/\∃A' δ',MR G ow i H0 av A' σ' H' δ'/\ZV (Zm k') φ (xs.drop j) δ'=some o,⟨xs.length,by simp,Nat.zero_le _,A,δ,R.mono s1,e⟩,?_⟩
  rintro j m σ' H' ⟨rfl,hle,A',δ',R',e'⟩
  obtain⟨w1,w2,w3⟩:=W H' (λb o z=>by cases z)
  by_cases hlt:j<xs.length
  · refine .inr ⟨w1 j hlt,λσ2 H2=>∃A2 δ2,MR G ow i H0 av A2 σ2 H2 δ2/\ZV (Zm k') φ (xs.drop (j+1)) δ2=some o,λσ2 H2 ⟨A2,δ2,E2,e2⟩=>⟨xs.length-(j+1),by omega,rfl,hlt,A2,δ2,E2,e2⟩,λv H2 y => ?_⟩
    have hx:xs[j]? = some xs[j]:=List.getElem?_eq_getElem hlt;obtain⟨s2,rep⟩:=w2 j _ v H2 hx y;have hs:=hsc xs[j] (List.getElem_mem hlt);have ev:v=val xs[j]:=(rep (λ_=>False) (λ_ z=>z.elim) (λ_ z=>z.elim)).val hs;subst ev;rw [List.drop_eq_getElem_cons hlt]at e';unfold ZV at e'
    have e':(match φ (δ'.set k' (some xs[j]))with
     |none=>none
     |some (.nx δ2)=>ZV (Zm k') φ (xs.drop (j+1)) δ2
     |some (.ct δ2)=>ZV (Zm k') φ (xs.drop (j+1)) δ2
     |some (.bk δ2)=>some (.nx δ2)
     |some (.rt d)=>some (.rt d))=some o:=e'
    have R2:=(R'.mono s2).set (owN:=ow) hs hk (λj=>by
     have:k'∉ow:=by simpa using hko
     exact⟨λh=>⟨h,λz=>this (z▸h)⟩,λh=>h.1⟩) hn
    cases hφ:φ (δ'.set k' (some xs[j]))with
    |none=>rw [hφ]at e';cases e'
    |some o1=>
     rw [hφ]at e';refine hb _ av _ _ H2 _ R2 o1 hφ _ ?_;cases o1 with
     |nx δ2=>exact λA4 σ4 H4 E4=>⟨A4,δ2,E4,e'⟩
     |ct δ2=>exact λA4 σ4 H4 E4=>⟨A4,δ2,E4,e'⟩
     |bk δ2=>cases e';exact λA4 σ4 H4 E4=>k A4 σ4 H4 E4
     |rt d=>cases e';exact k
  · have ei:j=xs.length:=by omega
    subst ei;rw [List.drop_length]at e';cases e';exact .inl ⟨w3 _ (Nat.le_refl _),k A' σ' H' R'⟩
theorem Zfn{c:TT}{tb:TS}{τ:Env->Option Bool}{φ:Env->Option Out}(hc:VT G ow c τ)(hb:VM G ow ow ow ow i tb φ):VM G ow ow owB owC i (JT c tb) (X3 τ φ):=λH0 av A σ H δ E o e De k=>by
 obtain⟨n,e⟩:=ZaJ e;refine⟨λm σ' H'=>∃A' δ',MR G ow i H0 av A' σ' H' δ'/\YC τ φ m δ'=some o,⟨n,A,δ,E,e⟩,?_⟩
 rintro m σ' H' ⟨A',δ',E',e'⟩
 cases m with
 |zero=>cases e'
 |succ m=>
  unfold YC at e';cases ht:τ δ' with
  |none=>rw [ht]at e';cases e'
  |some b=>
   rw [ht]at e';refine hc H0 av A' σ' H' δ' E'.view b ht _ λH2 s2 => ?_
   have E2:=E'.mono s2;cases b with
   |false=>cases e';exact XX (k A' σ' H2 E2)
   |true=>
    dsimp only at e';refine XY ⟨λσ3 H3=>∃A3 δ3,MR G ow i H0 av A3 σ3 H3 δ3/\YC τ φ m δ3=some o,λσ3 H3 ⟨A3,δ3,E3,e3⟩=>⟨m,Nat.lt_succ_self _,A3,δ3,E3,e3⟩,?_⟩;cases hφ:φ δ' with
    |none=>rw [hφ]at e';cases e'
    |some o1=>
     rw [hφ]at e';refine hb H0 av A' σ' H2 δ' E2 o1 hφ _ ?_;cases o1 with
     |nx δ2=>exact λA4 σ4 H4 E4=>⟨A4,δ2,E4,e'⟩
     |ct δ2=>exact λA4 σ4 H4 E4=>⟨A4,δ2,E4,e'⟩
     |bk δ2=>cases e';exact k
     |rt d=>cases e';exact k
def Xo(i:Nat)(φ:Env->Option Out)(δ:Env):Option Out:=match φ (δ.set i none)with
 |some (.nx δ')=>match δ'[i]? with
  |some none=>some (.nx (δ'.set i ((δ[i]?).getD none)))
  |_=>none
 |some (.rt d)=>some (.rt d)
 |_=>none
theorem ZbT{t:TS}{φ:Env->Option Out}(h:∀v,VS (G.keep i v) ow owN [] [] t φ)(ho:owN.contains i=false):VM G ow owN owB owC i t (Xo i φ):=λH0 av A σ H δ R o e De k=>by
 obtain⟨a,bs,rows,hd,M,h0,E⟩:=R.ex;unfold Xo at e;cases hp:φ (δ.set i none)with
 |none=>rw [hp]at e;cases e
 |some o1=>
  rw [hp]at e;refine h (.ref a) _ _ A σ H _ E o1 hp De ?_;cases o1 with
  |nx δ1=>
   dsimp only at e;intro A' σ' H' E';have hs:Same (ovl H0 H (a::bs)) H':=E'.same
   have hF:∀x∈a::bs,H' x=H x:=λx hx=>by
    obtain⟨vs,q⟩:=M.there hx;rw [q];exact hs x _ (by rw [Xx hx];exact q)
   cases hi:δ1[i]? with
   |none=>rw [hi]at e;cases e
   |some z=>
    rw [hi]at e;cases z with
    |some y=>cases e
    |none=>
     dsimp only at e;rw [hd]at e;have e:some (Out.nx (δ1.set i (some (mat rows))))=some o:=e;cases e;have hil:i<δ1.length:=(List.getElem?_eq_some_iff.mp hi).1;have M':Mx H' a bs rows:=⟨(hF a List.mem_cons_self).trans M.top,M.len,M.nd,M.na,λk b r h1 h2=>(hF b (List.mem_cons_of_mem _ (List.mem_of_getElem? h1))).trans (M.row k b r h1 h2),M.sc⟩
     have eo:ovl H0 H' (a::bs)=ovl H0 H (a::bs):=by
      funext x
      by_cases hx:x∈a::bs
      · rw [Xx hx,Xx hx,hF x hx]
      · rw [Y6 hx,Y6 hx]
     have es:(δ1.set i (some (mat rows))).set i none=δ1:=by
      rw [List.set_set];apply List.ext_getElem?;intro j
      by_cases hj:j=i
      · subst hj
        rw [List.getElem?_set_self hil,hi]
      · rw [List.getElem?_set_ne (Ne.symm hj)]
     exact k A' σ' H' ⟨by simpa using ho,(λz e=>by
      obtain⟨v,h1,h2⟩:=R.nn z e;have h3:=E.kept i _ U1;rw [h2]at h3;cases h3;exact⟨_,h1,E'.kept i _ U1⟩),R.avd,a,bs,rows,List.getElem?_set_self hil,M',h0,by rw [eo,es];exact E'⟩
  |rt d=>
   cases e;intro v H' s r;refine k v H' (λb o q=>s b o ?_) (r.av λb z => .inl (.inl z));have nb:b∉a::bs:=λz=>by rw [h0 b z]at q;cases q
   rw [Y6 nb];exact q
  |bk δ1=>cases e
  |ct δ1=>cases e
end
end DL
namespace DL
open PySem PySem.Spec L2
theorem Zht{α:Type}{xs:List α}{n:Int}{j:Nat}{x:α}(h:ixN xs.length n=some j)(hx:xs[j]? = some x):atI xs n=some x:=by
 unfold atI;rw [h];exact hx
section
variable{H:Hp}{a b:Addr}{bs:List Addr}{rows:List (List D)}{j:Nat}{r r':List D}
theorem Mx.put(M:Mx H a bs rows)(hb:bs[j]? = some b)(hr:rows[j]? = some r)(hs:r'.all ZA=true):Mx (upd H b (.lst (r'.map val))) a bs (rows.set j r'):=by
 have hbm:b∈bs:=List.mem_of_getElem? hb;have hab:a≠b:=λz=>M.na (z▸hbm)
 have hjl:j<rows.length:=(List.getElem?_eq_some_iff.mp hr).1;refine⟨by rw [ZI hab];exact M.top,by rw [List.length_set];exact M.len,M.nd,M.na,λk b' r1 h1 h2 => ?_,λr1 h1 => ?_⟩
 · by_cases hk:k=j
   · subst hk
     rw [hb]at h1;cases h1;rw [List.getElem?_set_self hjl]at h2;cases h2;exact ZN
   · rw [List.getElem?_set_ne (Ne.symm hk)]at h2
     have:b'≠b:=λz=>hk (by
      subst z;obtain⟨p1,k1⟩:=(List.getElem?_eq_some_iff.mp h1)
      obtain⟨p2,k2⟩:=(List.getElem?_eq_some_iff.mp hb)
      rcases Nat.lt_trichotomy k j with h|h|h
      · exact absurd (k1.trans k2.symm) (List.pairwise_iff_getElem.mp M.nd k j p1 p2 h)
      · exact h
      · exact absurd (k2.trans k1.symm) (List.pairwise_iff_getElem.mp M.nd j k p2 p1 h))
     rw [ZI this];exact M.row k b' r1 h1 h2
 · rcases List.mem_or_eq_of_mem_set h1 with h1|rfl
   · exact M.sc r1 h1
   · exact hs
theorem Zcc:(rows.map D.lst).set j (.lst r')=(rows.set j r').map D.lst:=by rw [List.map_set]
theorem Zhu{d:D}(h:(rows.map D.lst)[j]? = some d):∃r,rows[j]? = some r/\d = .lst r:=by
 rw [List.getElem?_map]at h;cases hr:rows[j]? with
 |none=>rw [hr]at h;cases h
 |some r=>rw [hr]at h;cases h;exact⟨r,rfl,rfl⟩
theorem Mx.at(M:Mx H a bs rows)(hr:rows[j]? = some r):∃b,bs[j]? = some b/\H b=some (.lst (r.map val)):=by
 have hjl:j<bs.length:=by rw [M.len];exact(List.getElem?_eq_some_iff.mp hr).1
 exact⟨bs[j],List.getElem?_eq_getElem hjl,M.row j _ r (List.getElem?_eq_getElem hjl) hr⟩
end
section
variable{cA:Kn}{G:Cn}{ow owN owB owC ow1:List Nat}{i:Nat}
theorem scal_of{ε:Env->Option D}{δ:Env}{d:D}(h:Ub ε δ=some d):ZA d=true:=by
 unfold Ub at h;cases hx:ε δ with
 |none=>rw [hx]at h;cases h
 |some d'=>
  rw [hx]at h
  by_cases hs:ZA d'=true
  · have e':d'=d:=by simpa [hs]using h
    rw [<-e'];exact hs
  · simp [hs]at h
def Vi(i:Nat)(κ1 ε:Env->Option D)(δ:Env):Option Out:=match Za i δ,κ1 δ,Ub ε δ with
 |some (.lst xs),some (.int n),some d=>match ixN xs.length n with
  |some j=>match xs[j]? with
   |some (.lst r)=>if r.length<sizeLine then some (.nx (δ.set i (some (.lst (xs.set j (.lst (r++[d])))))))else none
   |_=>none
  |none=>none
 |_,_,_=>none
theorem Zdb{κ1 ε:Env->Option D}{δ:Env}{o:Out}(h:Vi i κ1 ε δ=some o):∃d xs n j r,Ub ε δ=some d/\Za i δ=some (.lst xs)/\κ1 δ=some (.int n)/\ixN xs.length n=some j/\xs[j]? = some (.lst r)/\r.length<sizeLine/\o = .nx (δ.set i (some (.lst (xs.set j (.lst (r++[d])))))):=by
 unfold Vi at h
 split at h
 · rename_i xs n d h1 h2 h3
   split at h
   · rename_i j hj
     split at h
     · rename_i r hr
       by_cases hz:r.length<sizeLine
       · rw [if_pos hz]at h
         exact⟨d,xs,n,j,r,h3,h1,h2,hj,hr,hz,(Option.some.inj h).symm⟩
       · rw [if_neg hz]at h;cases h
     · cases h
   · cases h
 · cases h
theorem ZdV{te t1:TE}{q q1:Ql}{ε κ1:Env->Option D}(h1:VE G ow t1 q1 κ1)(h:VE G ow te q ε):VM G ow ow owB owC i (V8 (tBM G.1.K "list" rAppend (tOp (Uw G.1.K) (Yy i) t1) (XV te tNil))) (Vi i κ1 ε):=λH0 av A σ H δ R o e De k=>by
 obtain⟨d,xs,n,j,r,e1,e2,e3,e5,e6,e7,rfl⟩:=Zdb e;obtain⟨a,bs,rows,hd,M,h0,E⟩:=R.ex
 have ex:xs=rows.map D.lst:=by
  have:=Xa e2;rw [hd]at this;cases this;rfl
 subst ex;obtain⟨r0,hr,er⟩:=Zhu e6;cases er;obtain⟨b,hb,hH⟩:=M.at hr;refine⟨.ref a,E.kept i _ U1,h1 H0 av A σ H δ R.view _ e3 _ λy H2 s2 r2 => ?_⟩;have ey:y = .int n:=r2.any;subst ey;refine .inl ⟨a,bs.map V.ref,n,.ref b,rfl,rfl,SqL.of (s2 _ _ M.top),Zht (j:=j) (by rw [List.length_map]at e5 ⊢;rw [M.len];exact e5) (by rw [List.getElem?_map,hb];rfl),.inl ⟨rfl,_,SqL.of (s2 _ _ hH)⟩,?_⟩
 have R2:=R.mono s2;refine h.scal H0 av A σ H2 δ R2.view d e1 _ λv H3 s3 r3 => ?_
 have hs:=scal_of e1;have ev:v=val d:=(RepT.r r3).val hs;subst ev;have s23:=s2.trans s3;have M3:=M.mono s23;refine⟨b,r.map val,val d,rfl,rfl,s23 _ _ hH,by rw [List.length_map];exact e7,k A σ _ ?_⟩;rw [Zcc];have em:r.map val++[val d]=(r++[d]).map val:=by rw [List.map_append];rfl
 rw [em]
 have hrs:(r++[d]).all ZA=true:=by
  rw [List.all_append,M.sc r (List.mem_of_getElem? hr)];simp [hs]
 exact MR.turn R.ni R.nn R.avd hd M3 h0 (by rw [Za6 M s23];exact E.mono s23) (M3.put hb hr hrs) λx hx=>ZI λz=>hx (z▸List.mem_cons_of_mem _ (List.mem_of_getElem? hb))
end
end DL
namespace DL
open PySem PySem.Spec L2
def VFM(G:Cn)(ow:List Nat)(te:TE)(ε:Env->Option D):Prop:=
 ∀H0 av A σ H δ,ER G ow H0 av A σ H δ->∀d,ε δ=some d->∀Q:VK,(∀a bs rows H',Same H H'->(∀x∈a::bs,H x=none)->Mx H' a bs rows->d=mat rows->Q (.ref a) H')->te σ H Q
def U2(i:Nat)(ε:Env->Option D)(δ:Env):Option Out:=match ε δ with
 |some d=>if i<δ.length then some (.nx (δ.set i (some d)))else none
 |none=>none
section
variable{cA:Kn}{G:Cn}{ow owN owB owC ow1:List Nat}{i:Nat}
theorem Zfo{H0 H H':Hp}{av:Addr->Prop}{A:Nat->Option Addr}{σ:L2.St}{δ:Env}{a:Addr}{bs:List Addr}{rows:List (List D)}(E:ER G ow H0 av A σ H δ)(hi:i∉ow)(hn:G.2 i=none)(hil:i<δ.length)(s:Same H H')(hf:∀x∈a::bs,H x=none)(M:Mx H' a bs rows) :
 MR G ow i H0 av A (σ.set i (some (.ref a))) H' (δ.set i (some (mat rows))):=by
 have h0:∀x∈a::bs,H0 x=none:=λx hx=>E.same.free (hf x hx)
 have nF:∀j x,A j=some x->x∉a::bs:=λj x e z=>E.live j x e (hf x z)
 have E':=E.mono s;refine⟨hi,.none hn,E.avd,a,bs,rows,List.getElem?_set_self hil,M,h0,?_⟩;rw [List.set_set];refine⟨λb o e => ?_,λx z => ?_,λj x e => ?_,E.inj,E'.live,E.dom,E.dom',by rw [List.length_set,List.length_set];exact E.len,λj x e => ?_,λj v e => ?_,λj d e => ?_⟩
 · by_cases hx:b∈a::bs
   · rw [Xx hx]at e;exact e
   · rw [Y6 hx]at e;exact E'.same b o e
 · by_cases hx:x∈a::bs
   · rw [Xx hx]
     obtain⟨vs,q⟩:=M.there hx;rw [q];exact λz=>by cases z
   · rw [Y6 hx]
     exact E.avd x (z.resolve_right hx)
 · rw [Y6 (nF j x e)]
   exact E.fr j x e
 · have q:j≠i:=λz=>by rw [z,U1]at e;cases e
   exact E.pin j x (by rw [U0 q]at e;exact e)
 · by_cases q:j=i
   · subst q
     rw [U1]at e;cases e;exact List.getElem?_set_self (by rw [E.len];exact hil)
   · rw [U0 q]at e
     rw [List.getElem?_set_ne (Ne.symm q)];exact E.kept j v e
 · have q : j ≠ i := fun z => by
    rw [z,List.getElem?_set_self hil]at e;cases e
   rw [List.getElem?_set_ne (Ne.symm q)]at e;obtain⟨v,h1,h2,h3⟩:=E.var j d e
   have more:∀b,AV (avF av (a::bs)) A b->AV av A b\/H b=none:=λb z=>by
    rcases z with(z|z)|z
    · exact .inl (.inl z)
    · exact .inr (hf b z)
    · exact .inl (.inr z)
   refine⟨v,by rw [List.getElem?_set_ne (Ne.symm q)];exact h1,λz=>((h2 z).av more).same s,λb z => ?_⟩;obtain⟨r1,r2⟩:=h3 b z;refine⟨r1,?_⟩;cases d with
   |lst xs=>obtain⟨vs,q1,q2⟩:=r2;exact⟨vs,s _ _ q1,(q2.av more).same s⟩
   |obj c ks xs=>obtain⟨dx,vs,q1,q0,q2⟩:=r2;exact⟨dx,vs,s _ _ q1,q0,(q2.av more).same s⟩
   |dct ks xs=>obtain⟨vs,q1,q0,q2⟩:=r2;exact⟨vs,s _ _ q1,q0,(q2.av more).same s⟩
   |dtt ks xs=>obtain⟨vs,q1,q0,q2⟩:=r2;exact⟨vs,s _ _ q1,q0,(q2.av more).same s⟩
   |_=>exact r2
theorem WantsM.of{H0:Hp}{av:Addr->Prop}{De:Ends}{o:Out}(k:Zip G owN owB owC H0 av De o):WantsM G owN owB owC i H0 av De o:=by
 cases o with
 |nx δ'=>exact λA' σ' H' R=>k A' σ' H' R.view
 |rt d=>exact k
 |bk δ'=>exact λA' σ' H' R=>k A' σ' H' R.view
 |ct δ'=>exact λA' σ' H' R=>k A' σ' H' R.view
theorem Zje{te:TE}{u:TS}{ε:Env->Option D}{ψ:Env->Option Out}(i:Nat)(hi:ow.contains i=false)(hn:G.2 i=none)(h1:VFM G ow te ε)(h2:VM G ow owN owB owC i u ψ):VS G ow owN owB owC (V7 (XU te (YU i)) u) (Zg (U2 i ε) ψ):=λH0 av A σ H δ E o e De k=>by
 unfold Zg U2 at e;cases he:ε δ with
 |none=>rw [he]at e;cases e
 |some d=>
  rw [he]at e;dsimp only at e
  by_cases hil:i<δ.length
  · rw [if_pos hil]at e
    dsimp only at e;refine h1 H0 av A σ H δ E d he _ λa bs rows H' s hf M hd => ?_
    subst hd;exact h2 H0 av A _ H' _ (Zfo E (by simpa using hi) hn hil s hf M) o e De (WantsM.of k)
  · rw [if_neg hil]at e;cases e
theorem VFM.cl{te:TE}{ε:Env->Option D}(h:VFM G ow te ε):VE G ow te .cl ε:=λH0 av A σ H δ E d e Q k=>
 h H0 av A σ H δ E d e Q λa bs rows H' s hf M hd=>by
  subst hd;exact k _ H' s (M.rep λx hx z=>E.avl x z (hf x hx)).t
def Q8:D->D->Option D
 | .lst a,.int n=>mulX (.lst a) (.int n)
 |_,_=>none
theorem Zjf{ta tb:TE}{q:Ql}{a b:Env->Option D}(ha:VE G ow ta .cl a)(hb:VE G ow tb q b):VF G ow (tOp (Q6 G.1.K) ta tb) (eOp Q8 a b):=λH0 av A σ H δ E d e Q k=>by
 obtain⟨x,y,ex,ey,ed⟩:=QR e;unfold Q8 at ed
 split at ed
 · rename_i xs n
   unfold mulX at ed;dsimp only at ed
   by_cases hz:n<2 ^ 63 /\ -(2 ^ 63)<=n/\xs.length*n.toNat<=sizeLine
   · rw [if_pos hz]at ed
     cases ed;refine ha H0 av A σ H δ E _ ex _ λv H1 s1 r1=>hb H0 av A σ H1 δ (E.mono s1) _ ey _ λw H2 s2 r2 => ?_
     have ew:w = .int n:=r2.any;subst ew;obtain⟨a1,vs1,rfl,na,rd,l1⟩:=r1;refine .inr (.inr ⟨a1,n,vs1,rfl,rfl,s2.seq rd,hz.2.1,hz.1,by rw [<-l1.length];exact hz.2.2,λp hp=>k p _ _ H2 (s1.trans s2) hp ((l1.same s2).rep n.toNat) rfl⟩)
   · rw [if_neg hz]at ed;cases ed
 · cases ed
end
section
variable{P:Program}{w:World}{K:PySem.W.Frag}{mg:Str->Option Value}{base:Heap}{cA:Kn}
end
end DL
namespace DL
open PySem PySem.Spec L2
def Um:List D->Option (List (List D))
 | []=>some []
 | .lst r::xs=>if r.all ZA=true then(match Um xs with
  |some rs=>some (r::rs)
  |none=>none)else none
 |_::_=>none
theorem ZaK:∀{xs:List D}{rs:List (List D)},Um xs=some rs->xs=rs.map D.lst/\∀r∈rs,r.all ZA=true
 | [],rs,h=>by
  cases h;exact⟨rfl,λr z=>by cases z⟩
 |x::xs,rs,h=>by
  unfold Um at h
  split at h
  · cases ‹_::_=[]›
  · rename_i r ys he
    cases he
    by_cases hr:r.all ZA=true
    · rw [if_pos hr]at h
      cases hq:Um xs with
      |none=>rw [hq]at h;cases h
      |some rs'=>
       rw [hq]at h;cases h;obtain⟨h1,h2⟩:=ZaK hq;refine⟨by rw [List.map_cons,<-h1],λr' hr' => ?_⟩;rcases List.mem_cons.mp hr' with rfl|z
       · exact hr
       · exact h2 r' z
    · rw [if_neg hr]at h;cases h
  · cases h
def U3(ε:Env->Option D)(δ:Env):Option D:=match ε δ with
 |some (.lst xs)=>match Um xs with
  |some _=>some (.lst xs)
  |none=>none
 |_=>none
section
variable{cA:Kn}{G:Cn}{ow:List Nat}
structure RowsAt(H0 H:Hp)(bs:List Addr)(rows:List (List D)):Prop where
 len:bs.length=rows.length
 nd:bs.Nodup
 row:∀(k:Nat)(b:Addr)(r:List D),bs[k]? = some b->rows[k]? = some r->H b=some (.lst (r.map val))
 fr:∀b∈bs,H0 b=none
 sc:∀r∈rows,r.all ZA=true
theorem RowsAt.snoc{H0 H H':Hp}{bs:List Addr}{rows:List (List D)}{p:Addr}{r:List D}(R:RowsAt H0 H bs rows)(s0:Same H0 H)(s:Same H H')(hp:H' p=none)(hs:r.all ZA=true):RowsAt H0 (upd H' p (.lst (r.map val))) (bs++[p]) (rows++[r]):=by
 have there:∀b∈bs,H b≠none:=λb hb=>by
  obtain⟨k,hk,e⟩:=List.mem_iff_getElem.mp hb;have hk2:k<rows.length:=by rw [<-R.len];exact hk
  rw [R.row k b _ (by rw [List.getElem?_eq_getElem hk,e]) (List.getElem?_eq_getElem hk2)];exact λz=>by cases z
 have np:∀b∈bs,b≠p:=λb hb z=>there b hb (by rw [z];exact s.free hp)
 refine⟨by rw [List.length_append,List.length_append,R.len];rfl,?_,λn b' r' g1 g2 => ?_,λb hb => ?_,λr' hr' => ?_⟩
 · rw [List.nodup_append]
   refine⟨R.nd,by simp,λx hx y hy => ?_⟩;rw [List.mem_singleton.mp hy];exact np x hx
 · by_cases hn':n<bs.length
   · rw [List.getElem?_append_left hn']at g1
     rw [List.getElem?_append_left (by rw [<-R.len];exact hn')]at g2;rw [ZI (np b' (List.mem_of_getElem? g1))];exact s _ _ (R.row n b' r' g1 g2)
   · rw [List.getElem?_append_right (by omega)]at g1
     rw [List.getElem?_append_right (by rw [<-R.len];omega),<-R.len]at g2
     have hnn:n-bs.length=0:=by
      by_cases z:n-bs.length=0
      · exact z
      · rw [List.getElem?_eq_none (by simp;omega)]at g1;cases g1
     rw [hnn]at g1 g2;cases g1;cases g2;exact ZN
 · rcases List.mem_append.mp hb with z|z
   · exact R.fr b z
   · rw [List.mem_singleton.mp z]
     exact s0.free (s.free hp)
 · rcases List.mem_append.mp hr' with z|z
   · exact R.sc r' z
   · rw [List.mem_singleton.mp z];exact hs
theorem RowsAt.same{H0 H H':Hp}{bs:List Addr}{rows:List (List D)}(R:RowsAt H0 H bs rows)(s:Same H H'):RowsAt H0 H' bs rows:=⟨R.len,R.nd,λk b r h1 h2=>s _ _ (R.row k b r h1 h2),R.fr,R.sc⟩
theorem Zfp {wi:TI} {g:TG} {te:TE} {n:Nat} {js:List Nat} {ι:Env->Option (List D)} {γ:D->Env->Option Env} {ε:Env->Option D} {tt:TT} {τ:Env->Option Bool}
 (hjs:js.all (λj => !ow.contains j)=true) (hi:VI G ow wi ι) (hg:VG ⟨G.1,λ_=>none⟩ [] [] g γ) (ht:VT ⟨G.1,λ_=>none⟩ [] tt τ) (he:VF ⟨G.1,λ_=>none⟩ [] te ε):VFM G ow (Qk wi g tt te n js) (U3 (ZC ι γ τ ε n js)):=λH0 av A σ H δ E d e Q k=>by
 unfold U3 at e
 split at e
 · rename_i full hfull
   split at e
   · rename_i rs hrs
     have ed:D.lst full=d:=Option.some.inj e;obtain⟨hfe,hfs⟩:=ZaK hrs;unfold ZC at hfull;cases hι:ι δ with
     |none=>rw [hι]at hfull;cases hfull
     |some xs=>
      rw [hι]at hfull;dsimp only at hfull;cases hc:Ym γ τ ε (Yv n δ js) xs with
      |none=>rw [hc]at hfull;cases hfull
      |some full'=>
       rw [hc]at hfull;dsimp only at hfull
       by_cases hz:full'.length<=sizeLine
       · rw [if_pos hz]at hfull
         have hff:full'=full:=by cases hfull;rfl
         subst hff;refine hi H0 av A σ H δ E xs hι _ λJ H1 s1 W => ?_
         have E1:=E.mono s1
         refine⟨λi m ys H'=>m=xs.length-i/\i<=xs.length/\Same H1 H'/\∃bs done rest,ys=bs.map V.ref/\RowsAt H1 H' bs done/\Ym γ τ ε (Yv n δ js) (xs.drop i)=some rest/\done.map D.lst++rest=full',
          ⟨xs.length,by simp,Nat.zero_le _,Same.refl _,[],[],full',rfl,⟨rfl,List.nodup_nil,(λk b r h1 h2=>by simp at h1),(λb z=>by cases z),(λr z=>by cases z)⟩,hc,rfl⟩,?_⟩
         rintro i m ys H' ⟨rfl,hle,s',bs,done,rest,rfl,RA,hr,hf⟩
         have E':=E1.mono s';have sc:Same (DL.cut A H1) H':=λb o z=>s' b o (QZ z).1
         obtain⟨w1,w2,w3⟩:=W H' sc
         by_cases hlt:i<xs.length
         · refine .inr ⟨w1 i hlt,λv H2 y => ?_⟩
           have hx:xs[i]? = some xs[i]:=List.getElem?_eq_getElem hlt;obtain⟨s2,rep⟩:=w2 i _ v H2 hx y;have rep':Rep G.1 (AV av A) H2 xs[i] v:=rep _ E'.avl λb z => .inl z
           have E2:=E'.mono s2;have EB:ER ⟨G.1,λ_=>none⟩ [] H2 (AV av A) (λ_=>none) (L2.blk n σ js) H2 (Yv n δ js):=E2.blk n js hjs
           have triv:∀(A':Nat->Option Addr){σ':L2.St}{H3:Hp}{δ':Env},ER ⟨G.1,λ_=>none⟩ [] H2 (AV av A) A' σ' H3 δ'->∀b,AV (AV av A) A' b ↔ AV av A b:=λA' {σ' H3 δ'} E3 b=>by
            constructor
            · rintro(z|⟨j,z⟩)
              · exact z
              · have:=E3.dom j (by rw [z];exact λz=>by cases z)
                cases this
            · exact λz => .inl z
           rw [List.drop_eq_getElem_cons hlt]at hr;unfold Ym at hr;cases hγ:γ xs[i] (Yv n δ js)with
           |none=>rw [hγ]at hr;cases hr
           |some δ1=>
            rw [hγ]at hr;dsimp only at hr;refine hg _ _ _ _ H2 _ EB _ v (rep'.av λb z => .inl ((triv _ EB b).mp z)) δ1 hγ _ λA3 σ3 H3 s3 E3 => ?_
            cases hτ:τ δ1 with
            |none=>rw [hτ]at hr;cases hr
            |some c=>
             rw [hτ]at hr;refine ht _ _ A3 σ3 H3 δ1 E3 c hτ _ λH4 s4 => ?_
             have E4:=E3.mono s4;cases c with
             |false=>
              exact XX ⟨xs.length-(i+1),by omega,rfl,hlt,(s'.trans s2).trans (s3.trans s4),bs,done,rest,rfl,RA.same ((s2.trans s3).trans s4),hr,hf⟩
             |true=>
              dsimp only at hr;cases hε:ε δ1 with
              |none=>rw [hε]at hr;cases hr
              |some yd=>
               rw [hε]at hr;dsimp only at hr;cases hr':Ym γ τ ε (Yv n δ js) (xs.drop (i+1))with
               |none=>rw [hr']at hr;cases hr
               |some rest'=>
                rw [hr']at hr;have hrr:yd::rest'=rest:=Option.some.inj hr;subst hrr;refine XY (he _ _ A3 σ3 H4 δ1 E4 yd hε _ λp vs zs H5 s5 hp l hyd => ?_);subst hyd
                have hzs:zs.all ZA=true:=by
                 have hm:D.lst zs∈full':=by rw [<-hf];simp
                 rw [hfe]at hm;obtain⟨r,hr1,hr2⟩:=List.mem_map.mp hm;cases hr2;exact hfs _ hr1
                have ev:vs=zs.map val:=l.vals hzs;subst ev;have sall:Same H' H5:=((s2.trans s3).trans s4).trans s5;refine⟨?_,xs.length-(i+1),by omega,rfl,hlt,(s'.trans sall).trans (ZU hp),bs++[p],done++[zs],rest',by rw [List.map_append];rfl,RA.snoc s' sall hp hzs,hr',by rw [<-hf,List.map_append,List.append_assoc];rfl⟩;have:=congrArg List.length hf;rw [List.length_append,List.length_cons,List.length_map]at this
                have:=RA.len;rw [List.length_map];omega
         · have ei:i=xs.length:=by omega
           subst ei;rw [List.drop_length]at hr;cases hr;rw [List.append_nil]at hf;refine .inl ⟨w3 _ (Nat.le_refl _),λp hp=>k p bs done _ ((s1.trans s').trans (ZU hp)) (λx hx => ?_) ⟨ZN,RA.len,RA.nd,?_,λk b r h1 h2 => ?_,RA.sc⟩ (by rw [<-ed,<-hf];rfl)⟩
           · rcases List.mem_cons.mp hx with rfl|z
             · exact s1.free (s'.free hp)
             · exact s1.free (RA.fr x z)
           · intro z
             obtain⟨j,hj,ej⟩:=List.mem_iff_getElem.mp z;have hj2:j<done.length:=by rw [<-RA.len];exact hj
             have:=RA.row j p _ (by rw [List.getElem?_eq_getElem hj,ej]) (List.getElem?_eq_getElem hj2);rw [hp]at this;cases this
           · have hb:=RA.row k b r h1 h2
             have:b≠p:=λz=>by rw [z,hp]at hb;cases hb
             rw [ZI this];exact hb
       · rw [if_neg hz]at hfull;cases hfull
   · cases e
 · cases e
end
end DL
namespace DL
open PySem PySem.Spec L2
section
variable{cA:Kn}{G:Cn}{ow owN owB owC ow1:List Nat}{i:Nat}
open Classical in
end
section
variable{P:Program}{w:World}{K:PySem.W.Frag}{mg:Str->Option Value}{base:Heap}{cA:Kn}
end
end DL
namespace L2
open PySem PySem.Spec PySem.W PyProof.Rows
theorem ZgS {X:Cx} {K:PySem.W.Frag} {o:Expr} {to:TE} {name:Str} {apos cpos:Pos} {T id:String} {r:V->List V->Hp->VK->Prop} (pa:PlainAttrs T) (slot:Slot T name id) (hty:typeOf (.builtin id)=pure (.type "method_descriptor")) (hm:MtR X id r) (ho:PE X o to)
 (hbase:attributeBase o name X.env (eval o X.env)=eval o X.env:=by rfl) (hline:(apos.endLine == cpos.line)=true:=by rfl) (hK:X.K=K:=by rfl):PE X (.Call (.Attribute o name apos) [] [] cpos) (Ua K T r to):=hK▸Zi2 pa slot hty hm ho hbase hline
end L2
namespace DL
open PySem PySem.Spec L2
section
variable{cA:Kn}{G:Cn}{ow owN owB owC ow1:List Nat}{i:Nat}
theorem MR.own{H0 H:Hp}{av:Addr->Prop}{A:Nat->Option Addr}{σ:L2.St}{δ:Env}{k:Nat}{xs:List D}{p:Addr}(R:MR G ow i H0 av A σ H δ)(hs:xs.all ZA=true)(hp:H p=none)(hk:k≠i)(hw:∀j,j∈ow1 ↔ j∈ow\/j=k)(hn:G.2 k=none):MR G ow1 i H0 av (λj=>if j=k then some p else A j) (σ.set k (some (.ref p))) (upd H p (.lst (xs.map val))) (δ.set k (some (.lst xs))):=by
 obtain⟨a,bs,rows,hd,M,h0,E⟩:=R.ex;refine⟨λz=>((hw i).mp z).elim R.ni λz=>hk z.symm,R.nn.set hk,R.avd,a,bs,rows,by rw [List.getElem?_set_ne hk];exact hd,M.mono (ZU hp),h0,?_⟩;rw [List.set_comm _ _ hk,Za6 M (ZU hp)];exact E.own hp (.of_vals hs) hw (by rw [U0 hk];exact hn)
end
end DL
namespace DL
open PySem PySem.Spec L2
def VP:D->Option Key
 | .int i=>some (.inl i)
 | .str cs=>some (.inr (tx cs))
 |_=>none
theorem Zaw{d:D}{k:Key}(h:VP d=some k):val d=kV k/\ZA d=true:=by
 cases d<;>first|(cases h;done)|(cases h;exact⟨rfl,rfl⟩)
def XO{α:Type}(k:Key)(d:α):List Key->List α->List α
 |k0::ks,x::xs=>(if k0=k then d else x)::XO k d ks xs
 |_,xs=>xs
def XQ(k:Key):List Key->Bool
 | []=>false
 |k0::ks=>decide (k0=k)||XQ k ks
def Uo(ks:List Key)(xs:List D)(k:Key)(d:D):D:=if XQ k ks=true then .dct ks (XO k d ks xs)else .dct (ks++[k]) (xs++[d])
theorem Zcy{α:Type}(k:Key)(d:α):∀(ks:List Key)(xs:List α),(XO k d ks xs).length=xs.length
 | [],_=>rfl
 |_::_,[]=>rfl
 |k0::ks,x::xs=>by rw [XO,List.length_cons,List.length_cons,Zcy k d ks xs]
theorem ZbU(k:Key):∀(ks:List Key)(vs:List V),ks.length=vs.length->((ks.zip vs).any λkv=>decide (kv.1=k))=XQ k ks
 | [],_,_=>rfl
 |k0::ks,[],h=>by simp at h
 |k0::ks,v::vs,h=>by
  rw [List.zip_cons_cons,List.any_cons,ZbU k ks vs (by simpa using h)];rfl
theorem Zfq(k:Key){ks:List Key}{vs:List V}(h:ks.length=vs.length):(Xv (ks.zip vs) k).isSome=XQ k ks:=by rw [<-Za3,ZbU k ks vs h]
theorem ZdW(k:Key)(v:V):∀(ks:List Key)(vs:List V),ks.length=vs.length->(ks.zip vs).map (λkv=>if kv.1=k then(kv.1,v)else kv)=ks.zip (XO k v ks vs)
 | [],_,_=>by simp
 |k0::ks,[],h=>by simp at h
 |k0::ks,x::vs,h=>by
  rw [List.zip_cons_cons,List.map_cons,XO,List.zip_cons_cons,ZdW k v ks vs (by simpa using h)]
  by_cases e:k0=k
  · simp [e]
  · simp [e]
section
variable{cA:Kn}{av:Addr->Prop}{H:Hp}
theorem Zcz(k:Key){d:D}{v:V}(hd:Rep cA av H d v):∀(ks:List Key){xs:List D}{vs:List V},RepL cA av H xs vs->RepL cA av H (XO k d ks xs) (XO k v ks vs)
 | [],xs,vs,l=>l
 |k0::ks,[],vs,l=>by rw [l.nil_of];exact .nil
 |k0::ks,y::xs,vs,l=>by
  obtain⟨u,r,rfl,h1,h2⟩:=l.uncons;rw [XO,XO];refine .cons ?_ (Zcz k hd ks h2)
  by_cases e:k0=k
  · rw [if_pos e,if_pos e];exact hd
  · rw [if_neg e,if_neg e];exact h1
theorem Zhv(k:Key){d:D}{v:V}{ks:List Key}{xs:List D}{vs:List V}{a:Addr}{H':Hp}(hks:ks.length=xs.length)(l:RepL cA av H' xs vs)(hd:Rep cA av H' d v)(e:H' a=some (.dK (Y9 (ks.zip vs) k v))):Own cA av H' (Uo ks xs k d) a:=by
 have hl:ks.length=vs.length:=by rw [hks,l.length]
 unfold Y9 at e;rw [ZbU k ks vs hl]at e;unfold Uo
 by_cases h:XQ k ks=true
 · rw [if_pos h,ZdW k v ks vs hl]at e
   rw [if_pos h];exact⟨_,e,by rw [Zcy];exact hks,Zcz k hd ks l⟩
 · rw [if_neg h]at e
   rw [if_neg h];refine⟨vs++[v],?_,by rw [List.length_append,List.length_append,hks];rfl,l.append (.cons hd .nil)⟩;rw [e,List.zip_append hl];rfl
end
section
variable{G:Cn}{ow owN owB owC ow1:List Nat}{H0 H:Hp}{av:Addr->Prop}{A:Nat->Option Addr}{σ:L2.St}{δ:Env}
theorem Zhw{i:Nat}{ks:List Key}{xs:List D}{vs:List V}{p:Addr}(E:ER G ow H0 av A σ H δ)(hp:H p=none)(hks:ks.length=xs.length)(l:RepL G.1 (AV av A) H xs vs)(hw:∀j,j∈ow1 ↔ j∈ow\/j=i)(hn:G.2 i=none) :
 ER G ow1 H0 av (λj=>if j=i then some p else A j) (σ.set i (some (.ref p))) (upd H p (.dK (ks.zip vs))) (δ.set i (some (.dct ks xs))):=by
 have hs:Same H (upd H p (.dK (ks.zip vs))):=ZU hp
 have less:∀b,AV av (λj=>if j=i then some p else A j) b->AV av A b\/H b=none:=λb z=>by
  rcases z with z|⟨j,z⟩
  · exact .inl (.inl z)
  · by_cases e:j=i
    · simp [e]at z;subst z;exact .inr hp
    · simp [e]at z;exact .inl (.inr ⟨j,z⟩)
 have np:∀j a,A j=some a->a≠p:=λj a e z=>by subst z;exact E.live j a e hp
 have h0:H0 p=none:=by
  cases q:H0 p with
  |none=>rfl
  |some o=>rw [E.same p o q]at hp;cases hp
 refine⟨E.same.trans hs,E.avd,λj a e => ?_,λj k a e1 e2 => ?_,λj a e => ?_,λj e => ?_,λj hj => ?_,by simp [E.len],λj a e=>(by
  have q:j≠i:=λz=>by rw [z,hn]at e;cases e
  simp only [q,if_false];exact E.pin j a e),(λj v' e=>by
  have q:j≠i:=λz=>by rw [z,hn]at e;cases e
  rw [List.getElem?_set_ne (Ne.symm q)];exact E.kept j v' e),λj d' e => ?_⟩
 · by_cases q:j=i
   · simp [q]at e;subst e;exact h0
   · simp [q]at e;exact E.fr j a e
 · by_cases q:j=i
   · by_cases q2:k=i
     · rw [q,q2]
     · simp [q]at e1;simp [q2]at e2
       exact absurd e1.symm (np k a e2)
   · by_cases q2:k=i
     · simp [q]at e1;simp [q2]at e2
       exact absurd e2.symm (np j a e1)
     · simp [q]at e1;simp [q2]at e2;exact E.inj j k a e1 e2
 · by_cases q:j=i
   · simp [q]at e;subst e;rw [ZN];exact λz=>by cases z
   · simp [q]at e
     rw [ZI (np j a e)];exact E.live j a e
 · by_cases q:j=i
   · exact(hw j).mpr (.inr q)
   · simp [q]at e;exact(hw j).mpr (.inl (E.dom j e))
 · by_cases q:j=i
   · simp [q]
   · simp [q]
     exact E.dom' j (((hw j).mp hj).resolve_right q)
 · rcases QY e with⟨rfl,rfl,hl⟩|⟨q,e'⟩
   · refine⟨.ref p,?_,λz=>by simp at z,λa z => ?_⟩
     · rw [List.getElem?_set_self (by rw [E.len];exact hl)]
     · simp at z
       subst z;exact⟨rfl,vs,ZN,hks,(l.av less).same hs⟩
   · obtain⟨v',h1,h2,h3⟩:=E.var j d' e'
     refine⟨v',by rw [List.getElem?_set_ne (Ne.symm q)];exact h1,λz => ?_,λa z => ?_⟩
     · simp [q]at z
       exact((h2 z).av less).same hs
     · simp [q]at z
       obtain⟨r1,r2⟩:=h3 a z;refine⟨r1,?_⟩;cases d' with
       |lst xs=>obtain⟨vs',q1,q2⟩:=r2;exact⟨vs',hs _ _ q1,(q2.av less).same hs⟩
       |obj c ks xs=>obtain⟨dx,vs',q1,q0,q2⟩:=r2;exact⟨dx,vs',hs _ _ q1,q0,(q2.av less).same hs⟩
       |dct ks xs=>obtain⟨vs',q1,q0,q2⟩:=r2;exact⟨vs',hs _ _ q1,q0,(q2.av less).same hs⟩
       |dtt ks xs=>obtain⟨vs',q1,q0,q2⟩:=r2;exact⟨vs',hs _ _ q1,q0,(q2.av less).same hs⟩
       |_=>exact r2
def VFD(G:Cn)(ow:List Nat)(te:TE)(ε:Env->Option D):Prop:=
 ∀H0 av A σ H δ,ER G ow H0 av A σ H δ->∀d,ε δ=some d->∀Q:VK,(∀p ks vs xs H1,Same H H1->H1 p=none->ks.length=xs.length->RepL G.1 (AV av A) H1 xs vs->d = .dct ks xs->Q (.ref p) (upd H1 p (.dK (ks.zip vs))))->te σ H Q
theorem Zhx:VFD G ow tDNewK (eC (.dct [] [])):=λH0 av A σ H δ E d e Q k=>λp hp=>by
 cases e;exact k p [] [] [] H (Same.refl H) hp rfl .nil rfl
theorem Zhy{te:TE}{ε:Env->Option D}(i:Nat)(h:VFD G ow te ε)(hn:G.2 i=none)(h1:sub owN (i::ow)=true)(h2:owN.contains i=true)(h3:sub ow owN=true):VS G ow owN owB owC (XU te (YU i)) (Zl i ε):=λH0 av A σ H δ E o e De k=>by
 unfold Zl at e;cases he:ε δ with
 |none=>rw [he]at e;cases e
 |some d=>
  rw [he]at e;cases e;refine h H0 av A σ H δ E d he _ λp ks vs xs H1 s hp hk l hd => ?_
  subst hd;exact k _ _ _ (Zhw (E.mono s) hp hk l (Zcu h1 h2 h3) hn)
def inK(neg:Bool):D->D->Option D
 |x,.dct ks _=>match VP x with
  |some k=>some (.bl (neg != XQ k ks))
  |none=>none
 |_,_=>none
theorem Zfr{neg:Bool}{x y d:D}(h:inK neg x y=some d):∃ks xs k,y = .dct ks xs/\VP x=some k/\d = .bl (neg != XQ k ks):=by
 unfold inK at h
 split at h
 · rename_i ks xs
   cases hk:VP x with
   |none=>rw [hk]at h;cases h
   |some k=>rw [hk]at h;exact⟨ks,xs,k,rfl,rfl,(Option.some.inj h).symm⟩
 · cases h
theorem ZeE{ta tb:TE}{qa qb:Ql}{a b:Env->Option D}(ha:VE G ow ta qa a)(hb:VE G ow tb qb b):VE G ow (ZdN ta tb) .cl (eOp (inK true) a b):=λH0 av A σ H δ E d e Q k=>by
 obtain⟨x,y,ex,ey,ed⟩:=QR e;obtain⟨ks,xs,kk,rfl,hk,rfl⟩:=Zfr ed;obtain⟨hv,hs⟩:=Zaw hk;refine ha H0 av A σ H δ E _ ex _ λv H1 s1 r1=>hb H0 av A σ H1 δ (E.mono s1) _ ey _ λw H2 s2 r2 => ?_
 have e1:v=kV kk:=(r1.any.val hs).trans hv;obtain⟨p,vs,rfl,_,rd,hl,l⟩:=r2.tp;refine⟨p,_,rfl,e1▸DGet.k rd,?_⟩;rw [Zfq kk (hl.trans l.length)];have:=k (.bl (true != XQ kk ks)) H2 (s1.trans s2) blq;rw [Bool.true_bne]at this;exact this
def Vj(i:Nat)(κ ε:Env->Option D)(δ:Env):Option Out:=match ε δ,Za i δ,κ δ with
 |some d,some (.dct ks xs),some x=>match VP x with
  |some k=>if ks.length<sizeLine then some (.nx (δ.set i (some (Uo ks xs k d))))else none
  |none=>none
 |_,_,_=>none
theorem Zdc{i:Nat}{κ ε:Env->Option D}{δ:Env}{o:Out}(h:Vj i κ ε δ=some o):∃d ks xs x k,ε δ=some d/\Za i δ=some (.dct ks xs)/\κ δ=some x/\VP x=some k/\ks.length<sizeLine/\o = .nx (δ.set i (some (Uo ks xs k d))):=by
 unfold Vj at h
 split at h
 · rename_i d ks xs x h1 h2 h3
   cases hk:VP x with
   |none=>rw [hk]at h;cases h
   |some k=>
    rw [hk]at h;dsimp only at h
    by_cases hz:ks.length<sizeLine
    · rw [if_pos hz]at h
      exact⟨d,ks,xs,x,k,h1,h2,h3,hk,hz,(Option.some.inj h).symm⟩
    · rw [if_neg hz]at h;cases h
 · cases h
theorem Zhz{te ti:TE}{q:Ql}{ε κ:Env->Option D}(i:Nat)(hi:ow.contains i=true)(h:VE G ow te .cl ε)(hk:VE G ow ti q κ):VS G ow ow owB owC (Zil (Yy i) ti te) (Vj i κ ε):=λH0 av A σ H δ E o e De k=>by
 obtain⟨d,ks,xs,x,kk,e1,e2,e3,hkk,hz,rfl⟩:=Zdc e;obtain⟨hv,hs⟩:=Zaw hkk;have hi':i∈ow:=by simpa using hi
 cases hA:A i with
 |none=>exact absurd hA (E.dom' i hi')
 |some a=>
  refine h H0 av A σ H δ E d e1 _ λv H1 s1 r1 => ?_
  have E1:=E.mono s1;obtain⟨u,g1,_,g3⟩:=E1.var i _ (Xa e2);refine⟨u,g1,hk H0 av A σ H1 δ E1 _ e3 _ λy H2 s2 r2 => ?_⟩;have E2:=E1.mono s2;obtain⟨u',g1',_,g3'⟩:=E2.var i _ (Xa e2);obtain⟨rfl,vs,q1,q0,q2⟩:=g3' a hA;have eu:u = .ref a:=(g3 a hA).1;subst eu;have ey:y=kV kk:=(r2.any.val hs).trans hv;subst ey;refine⟨a,_,rfl,DPut.k q1 ?_,k A σ _ (E2.put hA (Xa e2) (λb o hb e=>by rw [ZI hb];exact e) (by rw [ZN];exact λz=>by cases z) ?_)⟩
  · have:(ks.zip vs).length=ks.length:=by rw [List.length_zip,<-q2.length,q0];omega
    rw [this];exact hz
  · have ex : ∀ b o, ¬ AV av A b -> H2 b = some o -> upd H2 a (.dK (Y9 (ks.zip vs) kk v)) b = some o := fun b o n e => by
     rw [ZI λz=>n (.inr ⟨i,by rw [z];exact hA⟩)];exact e
    exact Zhv kk q0 (q2.ext ex) ((RepT.r (r1.same s2)).ext ex) ZN
end
end DL
namespace L2
open PySem
theorem Zgl{X:Cx}(h:X.A.units+64<cLine):X.A.units+1<cLine:=by omega
end L2
namespace DL
open PySem PySem.Spec L2
section
variable{G:Cn}{ow owN owB owC ow1:List Nat}
end
section
variable{cA:Kn}{G:Cn}{ow owN owB owC ow1:List Nat}{i:Nat}
end
section
variable{P:Program}{w:World}{K:PySem.W.Frag}{mg:Str->Option Value}{base:Heap}{cA:Kn}
open Classical in
end
end DL
namespace L2
open PySem PySem.Spec PyProof.Rows
section
variable{X:Cx}
end
end L2
namespace DL
open PySem PySem.Spec L2
section
variable{cA:Kn}{G:Cn}{ow owN owB owC ow1:List Nat}{i:Nat}
mutual
def frz:D->Bool
 | .non=>true
 | .bl _=>true
 | .int _=>true
 | .str _=>true
 | .lst _=>false
 | .tup xs=>frzL xs
 | .obj _ _ xs=>frzL xs
 | .dct _ _=>false
 | .dtt _ _=>false
def frzL:List D->Bool
 | []=>true
 |x::xs=>frz x&&frzL xs
end
mutual
theorem Rep.frz{av av':Addr->Prop}{H:Hp}:∀{d:D}{v:V},frz d=true->(∀b,av' b->av b\/∃vs,H b=some (.lst vs))->Rep cA av H d v->Rep cA av' H d v
 | .non,_,_,_,h=>h
 | .bl _,_,_,_,h=>h
 | .int _,_,_,_,h=>h
 | .str _,_,_,_,h=>h
 | .lst xs,v,hf,k,h=>by cases hf
 | .tup xs,v,hf,k,h=>by
  unfold DL.frz at hf;unfold Rep at h ⊢;obtain⟨a,vs,e,n,r,l⟩:=h;exact⟨a,vs,e,λz=>(k a z).elim n (by rw [r];exact λ⟨_,z⟩=>by cases z),r,RepL.frz hf k l⟩
 | .obj c ks xs,v,hf,k,h=>by
  unfold DL.frz at hf;unfold Rep at h ⊢;obtain⟨a,dx,vs,e,n,r,z,l⟩:=h;exact⟨a,dx,vs,e,λz=>(k a z).elim n (by rw [r];exact λ⟨_,z⟩=>by cases z),r,z,RepL.frz hf k l⟩
 | .dct ks xs,v,hf,k,h=>by cases hf
 | .dtt ks xs,v,hf,k,h=>by cases hf
theorem RepL.frz{av av':Addr->Prop}{H:Hp}:∀{xs:List D}{vs:List V},frzL xs=true->(∀b,av' b->av b\/∃vs,H b=some (.lst vs))->RepL cA av H xs vs->RepL cA av' H xs vs
 | [],_,_,_,h=>h
 |x::xs,vs,hf,k,h=>by
  unfold DL.frzL at hf;rw [Bool.and_eq_true]at hf;unfold RepL at h ⊢;obtain⟨v,r,e,h1,h2⟩:=h;exact⟨v,r,e,Rep.frz hf.1 k h1,RepL.frz hf.2 k h2⟩
end
end
end DL
namespace PySem
open Sem (wp)
section
variable{prog:Program}{w:World}{A:Around}{E:Value->Shared->Prop}{s:Shared}
theorem Zcd {j t:Addr} {i:Nat} {xs:Array Value} {x:Value} {Q:Value->Shared->Prop} (hj:s.heap.IsTupleIter j t i) (ht:s.heap.IsTuple t xs) (hx:xs[i]? = some x)
 (hQ:∀h',h'.IsTupleIter j t (i+1)->Heap.SameBut j s.heap h'->Q x { s with heap:=h' }):wpAny (model prog w) A (Builtin.SmallTypes.nextOf (.ref j)) Q E s:=by
 obtain⟨oj,gj,cj,dj⟩:=id hj;obtain⟨ot,gt,_,nt,dt⟩:=ht;unfold Builtin.SmallTypes.nextOf;refine wpAny_bind (wpAny_callSpecial?_slot (name:=Str.ofString "__next__") hj.typeIs F.slot_tuple_iterator_next (wpAny_call_entry F.slot_tuple_iterator_next hj.typeIs F.entry_tuple_iterator_next ?_ (F.args_tuple_iterator_next_1 _)));show wpAny _ _ (field (.ref j) 0 >>= _) _ _ s;refine wpAny_bind (wpAny_field gj dj (x:=.ref t) rfl ?_)
 show wpAny _ _ (if(Value.ref t == Value.none)=true then _ else _) _ _ _;rw [if_neg (show ¬(Value.ref t == Value.none)=true from λz=>Bool.false_ne_true z)];show wpAny _ _ (field (.ref j) 1 >>= _) _ _ s;refine wpAny_bind (wpAny_field gj dj (x:=.int i 0) rfl ?_);show wpAny _ _ (seqItems? (.ref t) >>= _) _ _ _;refine wpAny_bind (wpAny_seqItems gt dt ?_);simp only [Int.toNat_natCast,hx];refine wpAny_bind (wpAny_setField gj dj (by simp) (wpAny_pure ⟨x,rfl,wpAny_pure (hQ _ ?_ (Heap.SameBut.update ..))⟩))
 refine⟨_,Heap.get?_update_self _ gj (Obj.isFreed_of_fields (Obj.data_mapFields dj _)),(Obj.cls_mapFields ..).trans cj,?_⟩;rw [Obj.data_mapFields dj];simp [rawInt]
theorem ZaL {j t:Addr} {i:Nat} {xs:Array Value} {Q:Value->Shared->Prop} (hh:A.handled=none) (hj:s.heap.IsTupleIter j t i) (ht:s.heap.IsTuple t xs) (hx:xs[i]? = none)
 (hE:∀h' e,Heap.ExtBut j s.heap h'->(∃o,h'.get? e=some o/\o.cls = .type "StopIteration")->E (.ref e) { s with heap:=h' }):wpAny (model prog w) A (Builtin.SmallTypes.nextOf (.ref j)) Q E s:=by
 obtain⟨oj,gj,cj,dj⟩:=id hj;obtain⟨ot,gt,_,nt,dt⟩:=ht;unfold Builtin.SmallTypes.nextOf;refine wpAny_bind (wpAny_callSpecial?_slot (name:=Str.ofString "__next__") hj.typeIs F.slot_tuple_iterator_next (wpAny_call_entry F.slot_tuple_iterator_next hj.typeIs F.entry_tuple_iterator_next ?_ (F.args_tuple_iterator_next_1 _)));show wpAny _ _ (field (.ref j) 0 >>= _) _ _ s;refine wpAny_bind (wpAny_field gj dj (x:=.ref t) rfl ?_)
 show wpAny _ _ (if(Value.ref t == Value.none)=true then _ else _) _ _ _;rw [if_neg (show ¬(Value.ref t == Value.none)=true from λz=>Bool.false_ne_true z)];show wpAny _ _ (field (.ref j) 1 >>= _) _ _ s;refine wpAny_bind (wpAny_field gj dj (x:=.int i 0) rfl ?_);show wpAny _ _ (seqItems? (.ref t) >>= _) _ _ _;refine wpAny_bind (wpAny_seqItems gt dt ?_);simp only [Int.toNat_natCast,hx];refine wpAny_bind (wpAny_rule (wpAny_bind (wpAny_setField gj dj (by simp) ?_)))
 show wpAny _ _ (newExc (.type "StopIteration") List.nil >>= _) _ _ _;refine wpAny_bind ?_;simp only [newExc,newTuple];refine wpAny_bind (wpAny_newObj_type (wpAny_bind (m:=firstArgMember _ _) (wpAny_of_eq (a:=Value.none) (by first|rfl|(simp only [firstArgMember];rfl)) (wpAny_newObj_type ?_ (by size_fits)))) (by size_fits));simp only [raiseNew];refine wpAny_bind (wpAny_handled ?_)
 first|rw [show A.in1.handled=none from hh]|rw [hh]
 exact wpAny_bind (wpAny_pure (wpAny_throw (hE _ _ (((Heap.SameBut.update ..).extBut.push _).push _) ⟨_,Heap.get?_push_size _ rfl,rfl⟩)))
end
def IsQI(k:Bool)(h:Heap)(a l:Addr)(i:Nat):Prop:=match k with
 |true=>h.IsTupleIter a l i
 |false=>h.IsListIter a l i
def IsQ(k:Bool)(h:Heap)(l:Addr)(xs:Array Value):Prop:=match k with
 |true=>h.IsTuple l xs
 |false=>h.IsList l xs
theorem IsQI.get{k:Bool}{h:Heap}{a l:Addr}{i:Nat}(x:IsQI k h a l i):∃o,h.get? a=some o/\o.data = .fields #[.ref l,.int i 0]:=by
 cases k with
 |true=>obtain⟨o,e,_,d⟩:=x;exact⟨o,e,d⟩
 |false=>obtain⟨o,e,_,d⟩:=x;exact⟨o,e,d⟩
theorem IsQI.at{k:Bool}{h h':Heap}{a l:Addr}{i:Nat}(x:IsQI k h a l i)(f:∀o,h.get? a=some o->h'.get? a=some o):IsQI k h' a l i:=by
 cases k with
 |true=>obtain⟨o,e,r⟩:=x;exact⟨o,f o e,r⟩
 |false=>obtain⟨o,e,r⟩:=x;exact⟨o,f o e,r⟩
theorem IsQI.ext{k:Bool}{h h':Heap}{a b l:Addr}{i:Nat}(x:IsQI k h a l i)(hs:Heap.ExtBut b h h')(n:a≠b):IsQI k h' a l i:=x.at λo e=>hs a o n e
theorem IsQ.at{k:Bool}{h h':Heap}{l:Addr}{xs:Array Value}(x:IsQ k h l xs)(f:∀o,h.get? l=some o->h'.get? l=some o):IsQ k h' l xs:=by
 cases k with
 |true=>obtain⟨o,e,r⟩:=x;exact⟨o,f o e,r⟩
 |false=>obtain⟨o,e,r⟩:=x;exact⟨o,f o e,r⟩
theorem IsQ.ext{k:Bool}{h h':Heap}{b l:Addr}{xs:Array Value}(x:IsQ k h l xs)(hs:Heap.ExtBut b h h')(n:l≠b):IsQ k h' l xs:=x.at λo e=>hs l o n e
theorem IsQ.lt{k:Bool}{h:Heap}{l:Addr}{xs:Array Value}(x:IsQ k h l xs):l<h.objs.size:=by
 cases k with
 |true=>obtain⟨o,e,_⟩:=x;exact Heap.lt_size e
 |false=>obtain⟨o,e,_⟩:=x;exact Heap.lt_size e
section
variable{prog:Program}{w:World}{A:Around}{E:Value->Shared->Prop}{s:Shared}
end
section
variable{prog:Program}{w:World}{A:Around}{E:Value->Shared->Prop}{s:Shared}
end
end PySem
namespace L2
open PySem PySem.Spec PyProof.Rows
def SqQ(k:Bool)(K:PySem.W.Frag)(H:Hp)(a:Addr)(xs:List V):Prop:=match k with
 |true=>SqT K H a xs
 |false=>SqL K H a xs
section
variable{X:Cx}{elts:List Expr}{x1:Nat}{tpos:Pos}
end
end L2
namespace DL
open PySem PySem.Spec L2
section
variable{cA:Kn}{G:Cn}{ow:List Nat}
theorem Zfs{k:Bool}{K:PySem.W.Frag}{H H':Hp}{a:Addr}{xs:List V}(e:Same H H')(h:SqQ k K H a xs):SqQ k K H' a xs:=by
 cases k with
 |false=>exact Same.seq e h
 |true=>
  rcases h with(h|⟨o,h⟩)|h
  · exact .inl (.inl (e _ _ h))
  · exact .inl (.inr ⟨o,e _ _ h⟩)
  · exact .inr h
end
end DL
namespace DL
open PySem PySem.Spec PyProof.Rows L2
def VQ:List Int->Int
 | []=>0
 |n::ns=>ns.foldl min n
theorem Zaf:∀(ns:List Int)(n:Int),(ns.foldl min n=n\/ns.foldl min n∈ns)/\ns.foldl min n<=n/\∀a∈ns,ns.foldl min n<=a
 | [],n=>⟨.inl rfl,Int.le_refl _,λ_ z=>nomatch z⟩
 |m::ns,n=>by
  obtain⟨h1,h2,h3⟩:=Zaf ns (min n m);rw [List.foldl_cons];refine⟨?_,by omega,λa ha => ?_⟩
  · rcases h1 with h|h
    · by_cases hm:n<=m
      · exact .inl (by rw [h,Int.min_eq_left hm])
      · exact .inr (by rw [h,Int.min_eq_right (by omega)];exact List.mem_cons_self)
    · exact .inr (List.mem_cons_of_mem _ h)
  · rcases List.mem_cons.mp ha with rfl|ha
    · omega
    · exact h3 a ha
theorem Zax{ns:List Int}(h:0<ns.length):VQ ns∈ns/\∀a∈ns,VQ ns<=a:=by
 cases ns with
 |nil=>cases h
 |cons n ns=>
  obtain⟨h1,h2,h3⟩:=Zaf ns n;refine⟨?_,λa ha => ?_⟩
  · rcases h1 with h|h
    · show ns.foldl min n∈_
      rw [h];exact List.mem_cons_self
    · exact List.mem_cons_of_mem _ h
  · rcases List.mem_cons.mp ha with rfl|ha
    · exact h2
    · exact h3 a ha
theorem Zbu{ns:List Int}{M:Int}(h1:M∈ns)(h2:∀a∈ns,M<=a):M=VQ ns:=by
 obtain⟨h3,h4⟩:=Zax (List.length_pos_of_mem h1);exact Int.le_antisymm (h2 _ h3) (h4 M h1)
def ZgT(K:PySem.W.Frag):List V->Hp->VK->Prop:=λxs H Q=>∃(p:Addr) (ns:List Int),xs=[.ref p]/\SqL K H p (ns.map V.int)/\0<ns.length/\Q (.int (VQ ns)) H
def Xp(ns:List Int):List Int:=ns.mergeSort λa b=>decide (a<=b)
theorem ZcA(ns:List Int):(Xp ns).Pairwise (· <= ·):=by
 have:=List.pairwise_mergeSort (le:=λa b:Int=>decide (a<=b)) (λa b c h1 h2=>by simp at h1 h2 ⊢;omega) (λa b=>by simp;omega) ns;exact this.imp λh=>by simpa using h
theorem Zdd{ns ms:List Int}(hp:ms.Perm ns)(hs:ms.Pairwise (· <= ·)):ms=Xp ns:=
 List.Perm.eq_of_pairwise (λa b _ _ h1 h2=>Int.le_antisymm h1 h2) hs (ZcA ns) (hp.trans (List.mergeSort_perm ns _).symm)
theorem ZeF(ns:List Int):(Xp ns).length=ns.length:=(List.mergeSort_perm ns _).length_eq
def Zdt(K:PySem.W.Frag):List V->Hp->VK->Prop:=λxs H Q=>∃(p:Addr) (ns:List Int),xs=[.ref p]/\SqL K H p (ns.map V.int)/\ns.length<64/\∀r,H r=none->Q (.ref r) (upd H r (.lst ((Xp ns).map V.int)))
theorem Zce:∀{its:List Value}{ns:List Int},IntsAre its ns->Vals (ns.map V.int) its:=by
 intro its ns h
 induction h with
 |nil=>exact .nil
 |cons n t _ ih=>exact .cons ⟨t,rfl⟩ ih
section
variable{X:Cx}{K:PySem.W.Frag}{cA:Kn}
theorem ZeG(hc:X.calm=true):Z6 X (.builtin "min") (ZgT X.K):=by
 intro pins s σ H xs us Q I rs h;obtain⟨p,ns,rfl,hq,hne,q⟩:=h;obtain⟨u,rfl,rx⟩:=YV rs;cases rx;obtain⟨its,rv,pl,hz⟩:=I.list hq;have hi:=Uj ns its rv;obtain⟨ys,e⟩:=hi.allInts.items
 have hns:ns=ys.toList.map (·.1):=by
  rw [<-hi.numsOf,<-nums_intItems,<-e]
 have hsz:0<ys.size:=by
  have h3:=hne;rw [hns,List.length_map,Array.length_toList]at h3;exact h3
 have hl:=pl.isList;rw [e]at hl;refine min_intList (I.ok.hd hc) hl hsz λv h' tk hv hk => ?_
 obtain⟨t,rfl⟩:=intItems_at hv;obtain⟨h1,h2⟩:=argBest_lt (numAt ys) (ys.size-1)
 have hM:=Zbu (ns:=ns) (M:=numAt ys (argBest (λi j=>decide (numAt ys i<numAt ys j)) (ys.size-1))) (by
  rw [hns,numAt_eq];exact getD_mem (by rw [List.length_map,Array.length_toList];omega)) (λa ha=>by
  rw [hns]at ha;obtain⟨j,hj,rfl⟩:=mem_getD ha;rw [List.length_map,Array.length_toList]at hj;rw [<-numAt_eq];exact h2 j (by omega))
 exact⟨.int (VQ ns),H,I.kept hk,⟨t,by rw [hM]⟩,q⟩
theorem Zde:Z6 X (.builtin "sorted") (Zdt X.K):=by
 intro pins s σ H xs us Q I rs h;obtain⟨p,ns,rfl,hq,h64,q⟩:=h;obtain⟨u,rfl,rx⟩:=YV rs;cases rx;obtain⟨its,rv,pl,hz⟩:=I.list hq;have hi:=Uj ns its rv;have hlen:its.length=ns.length:=by have:=rv.length;rw [List.length_map]at this;omega
 refine sorted_ints pl.isList hi (by omega) λout ns' hi' hp hs => ?_
 have e:=Zdd hp hs;subst e;obtain⟨n0,ho⟩:=sortedAll_at s.heap its out;have hv:Vals ((Xp ns).map V.int) out.toList:=Zce hi';refine⟨.ref (s.heap.objs.size+1),_,I.laid (a:=s.heap.objs.size+1) (o:=.lst ((Xp ns).map V.int)) (t':=s.toks) (λb o hb=>sortedAll_old hb) (Nat.le_succ _) ?_,rfl,q _ (I.hok.fresh (Nat.le_succ _))⟩;show ObjOk X.prog X.w _ _ _ (.lst _);refine⟨?_,out.toList,n0,hv,?_⟩
 · rw [List.length_map,ZeF,PySem.sizeLine_eq];omega
 · exact ho
theorem ZhA(hK:X.K=K:=by rfl):Z6 X (.builtin "sorted") (Zdt K):=hK▸Zde
def minLD:List D->Option D
 | [.lst xs]=>match YE xs with
  |some ns=>if 0<ns.length then some (.int (VQ ns))else none
  |none=>none
 |_=>none
theorem ZhB:X1 cA (ZgT cA.K) minLD:=λi H ds vs d _ h e Q k=>by
 unfold minLD at e
 split at e
 · rename_i xs
   cases hb:YE xs with
   |none=>rw [hb]at e;cases e
   |some bs=>
    rw [hb]at e;dsimp only at e
    by_cases hz:0<bs.length
    · rw [if_pos hz]at e
      cases e;obtain⟨v,t,rfl,a,ws,rfl,_,rd,l⟩:=il1 h;have ex:=Ui hb;subst ex;have ev:=l.vals (by rw [List.all_map];exact List.all_eq_true.mpr λ_ _=>rfl);rw [List.map_map]at ev;subst ev;exact⟨a,bs,rfl,rd,hz,k _ H (Same.refl H) rfl⟩
    · rw [if_neg hz]at e;cases e
 · cases e
def Up:List D->Option D
 | [.lst xs]=>match YE xs with
  |some ns=>if ns.length<64 then some (.lst ((Xp ns).map D.int))else none
  |none=>none
 |_=>none
variable{G:Cn}{ow:List Nat}
theorem ZhC{t:TA}{q:Ql}{α:Env->Option (List D)}(hq:q = .cl\/q = .tp)(h:VA G ow t q α):VF G ow (tCB (Zdt G.1.K) t) (eCB Up α):=λH0 av A σ H δ E d e Q k=>by
 unfold eCB at e;cases he:α δ with
 |none=>rw [he]at e;cases e
 |some ds=>
  rw [he]at e;replace e:Up ds=some d:=e;unfold Up at e
  split at e
  · rename_i xs
    cases hb:YE xs with
    |none=>rw [hb]at e;cases e
    |some ns=>
     rw [hb]at e;dsimp only at e
     by_cases hz:ns.length<64
     · rw [if_pos hz]at e
       cases e;refine h H0 av A σ H δ E _ he _ λvs H1 s1 r1 => ?_
       have il:Ux G.1 (AV av A) H1 [.lst xs] vs:=by
        rcases hq with rfl|rfl<;>exact r1.il
       obtain⟨v,t,rfl,a,ws,rfl,_,rd,l⟩:=il1 il;have ex:=Ui hb;subst ex;have ev:=l.vals (by rw [List.all_map];exact List.all_eq_true.mpr λ_ _=>rfl);rw [List.map_map]at ev;subst ev;refine⟨a,ns,rfl,rd,hz,λp hp=>k p _ _ H1 s1 hp ?_ rfl⟩;have:=RepL.of_vals (cA:=G.1) (av:=AV av A) (H:=H1) (xs:=(Xp ns).map D.int) (by rw [List.all_map];exact List.all_eq_true.mpr λ_ _=>rfl)
       rw [List.map_map]at this;exact this
     · rw [if_neg hz]at e;cases e
  · cases e
open Classical in
end
end DL
namespace DL
open PySem PySem.Spec L2
section
variable{cA:Kn}{av:Addr->Prop}{H:Hp}
end
section
variable{G:Cn}{ow owN owB owC ow1:List Nat}{H0 H:Hp}{av:Addr->Prop}{A:Nat->Option Addr}{σ:L2.St}{δ:Env}
def Qs:List D->Option (List Key)
 | []=>some []
 |x::xs=>match VP x,Qs xs with
  |some k,some ks=>some (k::ks)
  |_,_=>none
def ZjO:D->Option (List Key)
 | .tup xs=>Qs xs
 |_=>none
theorem ZaM{cA:Kn}{av:Addr->Prop}{H:Hp}:∀{xs:List D}{ks:List Key}{vs:List V},Qs xs=some ks->RepL cA av H xs vs->vs=ks.map kV
 | [],ks,vs,h,l=>by cases h;exact l.nil_of
 |x::xs,ks,vs,h,l=>by
  obtain⟨v,r,rfl,h1,h2⟩:=l.uncons;unfold Qs at h;cases hk:VP x with
  |none=>rw [hk]at h;cases h
  |some k=>
   cases hks:Qs xs with
   |none=>rw [hk,hks]at h;cases h
   |some ks'=>
    rw [hk,hks]at h;cases h;obtain⟨e1,e2⟩:=Zaw hk;rw [List.map_cons,ZaM hks h2,h1.val e2,e1]
theorem Zft{cA:Kn}{av:Addr->Prop}{H:Hp}{x:D}{k:List Key}{v:V}(h:ZjO x=some k)(r:Rep cA av H x v):∃b,v = .ref b/\H b=some (.tup (k.map kV)):=by
 cases x<;>first|(cases h;done)|skip
 obtain⟨a,vs,rfl,_,hH,l⟩:=r;exact⟨a,rfl,by rw [hH,ZaM h l]⟩
end
end DL
namespace L2
open PySem PySem.Spec PyProof.Rows
section
variable{X:Cx}
end
end L2
namespace DL
open PySem PySem.Spec L2
section
variable{G:Cn}{ow owN owB owC ow1:List Nat}
open Classical in
end
end DL
namespace L2
open PySem PySem.Spec PyProof.Rows
section
variable{X:Cx}
end
end L2
namespace DL
open PySem PySem.Spec L2
section
variable{G:Cn}{ow owN owB owC ow1:List Nat}
def Uq(γ:D->Env->Option Env)(ε:Env->Option D)(δ:Env):Option Out:=match ε δ with
 |some d=>match γ d δ with
  |some δ'=>some (.nx δ')
  |none=>none
 |none=>none
theorem ZbV{te:TE}{g:TG}{γ:D->Env->Option Env}{ε:Env->Option D}(h:VE G ow te .cl ε)(hg:VG G ow ow g γ):VS G ow ow owB owC (XU te g) (Uq γ ε):=λH0 av A σ H δ E o e De k=>by
 unfold Uq at e;cases he:ε δ with
 |none=>rw [he]at e;cases e
 |some d=>
  rw [he]at e;dsimp only at e;cases hγ:γ d δ with
  |none=>rw [hγ]at e;cases e
  |some δ'=>
   rw [hγ]at e;cases e;refine h H0 av A σ H δ E d he _ λv H1 s1 r1 => ?_
   exact hg H0 av A σ H1 δ (E.mono s1) d v (RepT.r r1) δ' hγ _ λA' σ' H' s' E'=>k A' σ' H' E'
end
end DL
namespace DL
open PySem PySem.Spec L2
section
variable{cA:Kn}{G:Cn}{ow owN owB owC:List Nat}
theorem RepL.dropLast{av:Addr->Prop}{H:Hp}:∀{xs:List D}{vs:List V},RepL cA av H xs vs->RepL cA av H xs.dropLast vs.dropLast
 | [],vs,h=>by rw [h.nil_of];exact .nil
 | [x],vs,h=>by
  obtain⟨v,r,rfl,_,t⟩:=h.uncons;rw [t.nil_of];exact .nil
 |x::y::xs,vs,h=>by
  obtain⟨v,r,rfl,h1,t⟩:=h.uncons;obtain⟨w,r',rfl,h2,t2⟩:=t.uncons;exact .cons h1 (RepL.dropLast (xs:=y::xs) (vs:=w::r') t)
end
end DL
namespace DL
open PySem PySem.Spec L2
section
variable{X:Cx}{cA:Kn}
open Classical in
end
end DL
namespace DL
open PySem PySem.Spec L2
section
variable{cA:Kn}{G:Cn}{ow owN owB owC ow1:List Nat}{i:Nat}{H0 H H':Hp}{av:Addr->Prop}{A:Nat->Option Addr}{σ:L2.St}{δ:Env}
theorem ER.less{H1:Hp}(s:Same H0 H1)(ha:∀a,av a->H0 a≠Option.none)(E:ER G ow H1 av A σ H δ):ER G ow H0 av A σ H δ:=
 ⟨s.trans E.same,ha,λi a e=>s.free (E.fr i a e),E.inj,E.live,E.dom,E.dom',E.len,E.pin,E.kept,E.var⟩
theorem MR.less{H1:Hp}(s:Same H0 H1)(ha:∀a,av a->H0 a≠none)(R:MR G ow i H1 av A σ H δ):MR G ow i H0 av A σ H δ:=by
 obtain⟨a,bs,rows,hd,M,h0,E⟩:=R.ex;refine⟨R.ni,R.nn,ha,a,bs,rows,hd,M,λx hx=>s.free (h0 x hx),ER.less (λx o e => ?_) (λx z => ?_) E⟩
 · by_cases h:x∈a::bs
   · rw [Xx h]at e ⊢;exact e
   · rw [Y6 h]at e ⊢;exact s x o e
 · by_cases h:x∈a::bs
   · rw [Xx h]
     obtain⟨vs,q⟩:=M.there h;rw [q];exact λz=>by cases z
   · rw [Y6 h]
     exact ha x (z.resolve_right h)
open Classical in
end
end DL
namespace DL
open PySem PySem.Spec L2
section
variable{cA:Kn}{G:Cn}{ow owN owB owC ow1:List Nat}{i:Nat}{H0 H H':Hp}{av:Addr->Prop}{A A':Nat->Option Addr}{σ σ':L2.St}{δ δ1:Env}
end
end DL
namespace DL
open PySem PySem.Spec L2
section
variable{cA:Kn}{G:Cn}{ow owN owB owC ow1:List Nat}{i:Nat}
def U4(ψ:Env->Option Out)(δ:Env):Option Out:=match ψ δ with
 |some (.rt d)=>some (.rt d)
 |_=>none
theorem Zjg{u:TS}{ψ:Env->Option Out}(h:VS G ow ow1 [] [] u ψ):VM G ow owN owB owC i u (U4 ψ):=λH0 av A σ H δ R o e De k=>by
 unfold U4 at e
 split at e
 · rename_i d hp
   cases e;exact h H0 av A σ H δ R.view _ hp De k
 · cases e
open Classical in
end
end DL
namespace DL
open PySem PySem.Spec L2
section
variable{G:Cn}{ow ow1:List Nat}
end
end DL
namespace L2
open PySem PySem.Spec PyProof.Rows
structure CompSd(X:Cx)(scope:Scope)(tn cn:List Str)(js:List Nat):Prop where
 kind:scope.kind = .function
 own:∀y∈scope.names,y.2 = .cell->scope.names.lookup y.1=some .cell
 names:∀y∈scope.names,y.2 = .local->scope.names.lookup y.1=some .local
 free:∀y∈scope.names,y.2 = .free->X.env.kindOf y.1=some .cell\/X.env.kindOf y.1=some .free
 cap:∀(k:Nat)(x:Str),cn[k]? = some x->∃j,js[k]? = some j/\X.N[j]? = some x/\(X.env.kindOf x=some .cell\/X.env.kindOf x=some .free)/\scope.names.lookup x=some .free
 len:cn.length=js.length
section
variable{X:Cx}{pins:List (Addr×Obj)}{σ:St}{H₂:Hp}{s₂:Shared}{scope:Scope}{tn cn:List Str}{js:List Nat}
end
section
variable{X:Cx}{tg iter elt:Expr}{ifs:List Expr}{scope:Scope}{pos:Pos}{wi:TI}{g:TG}{tt:TT}{te:TE}{tn cn:List Str}{js:List Nat}
end
end L2
namespace PySem
abbrev Zjh(h:Heap)(z TI TO:Addr)(f0 f1:Value):Prop:=
 h.get? z=some { cls := .type "zip",dict:=none,data := .fields #[f0,f1,.bool false,.ref TI,.ref TO],slots := #[] }
section
variable{prog:Program}{w:World}{A:Around}{E:Value->Shared->Prop}{s:Shared}
structure ZipSt(h:Heap)(z TI TO i1 i2 l1 l2:Addr)(i:Nat):Prop where
 zip:∃f0 b,Zjh h z TI TO f0 (.bool b)/\((f0 = .none/\b=false)\/∃T o,f0=rawInt (T:Nat)/\h.get? T=some o)
 TI:IsPair h TI (.ref i1) (.ref i2)
 TO:∃a b,IsPair h TO a b
 it1:h.IsListIter i1 l1 i
 it2:h.IsListIter i2 l2 i
end
end PySem
namespace L2
open PySem PySem.Spec PyProof.Rows
end L2
namespace L2
open PySem PySem.Spec PyProof.Rows
section
variable{X:Cx}
open Classical in
end
end L2
namespace DL
open PySem PySem.Spec L2
section
variable{cA:Kn}{G:Cn}{ow:List Nat}
end
end DL
namespace L2
open PySem PySem.Spec PyProof.Rows
end L2
namespace DL
open PySem PySem.Spec L2
end DL
namespace DL
open PySem PySem.Spec L2
section
variable{cA:Kn}{G:Cn}{ow owN owB owC:List Nat}{H0 H H':Hp}{av:Addr->Prop}{A:Nat->Option Addr}{σ:L2.St}{δ:Env}
def U5(ι:Env->Option (List D×Env))(γ:D->Env->Option Env)(φ:Env->Option Out)(δ:Env):Option Out:=match ι δ with
 |some (xs,δ')=>ZV γ φ xs δ'
 |none=>none
def VIP(G:Cn)(ow:List Nat)(wi:TI)(ι:Env->Option (List D×Env)):Prop:=
 ∀H0 av A σ H δ,ER G ow H0 av A σ H δ->∀xs δ',ι δ=some (xs,δ')->∀R:It->Hp->Prop,(∀J H1,ER G ow H0 av A σ H1 δ'->VC G.1 (AV av A) J xs (DL.cut A H1)->R J H1)->wi σ H R
theorem ZhD{wi:TI}{g:TG}{tb:TS}{ι:Env->Option (List D×Env)}{γ:D->Env->Option Env}{φ:Env->Option Out}(hi:VIP G ow wi ι)(hg:VG G ow ow g γ)(hb:VS G ow ow ow ow tb φ):VS G ow ow owB owC (Vu wi g tb) (U5 ι γ φ):=λH0 av A σ H δ E o e De k=>by
 unfold U5 at e;cases he:ι δ with
 |none=>rw [he]at e;cases e
 |some xd=>
  obtain⟨xs,δn⟩:=xd;rw [he]at e;have e:ZV γ φ xs δn=some o:=e;refine hi H0 av A σ H δ E xs δn he _ λJ H1 E1 W => ?_
  refine⟨λi m σ' H'=>m=xs.length-i/\i<=xs.length/\∃A' δ',ER G ow (DL.cut A H1) av A' σ' H' δ'/\ZV γ φ (xs.drop i) δ'=some o,⟨xs.length,by simp,Nat.zero_le _,A,δn,E1.cut,e⟩,?_⟩
  rintro i m σ' H' ⟨rfl,hle,A',δ',E',e'⟩
  obtain⟨w1,w2,w3⟩:=W H' E'.same
  by_cases hlt:i<xs.length
  · refine .inr ⟨w1 i hlt,λσ2 H2=>∃A2 δ2,ER G ow (DL.cut A H1) av A2 σ2 H2 δ2/\ZV γ φ (xs.drop (i+1)) δ2=some o,λσ2 H2 ⟨A2,δ2,E2,e2⟩=>⟨xs.length-(i+1),by omega,rfl,hlt,A2,δ2,E2,e2⟩,λv H2 y => ?_⟩
    have hx:xs[i]? = some xs[i]:=List.getElem?_eq_getElem hlt;obtain⟨s2,rep⟩:=w2 i _ v H2 hx y;have E2:=E'.mono s2
    have rep':Rep G.1 (AV av A') H2 xs[i] v:=rep _ E'.avl λb z=>by
     rcases z with z|⟨j,z⟩
     · exact .inl (.inl z)
     · exact .inr (E'.fr j b z)
    rw [List.drop_eq_getElem_cons hlt]at e';unfold ZV at e';cases hγ:γ xs[i] δ' with
    |none=>rw [hγ]at e';cases e'
    |some δ1=>
     rw [hγ]at e';dsimp only at e';refine hg _ av A' σ' H2 δ' E2 _ v rep' δ1 hγ _ λA3 σ3 H3 s3 E3 => ?_
     cases hφ:φ δ1 with
     |none=>rw [hφ]at e';cases e'
     |some o1=>
      rw [hφ]at e';refine hb _ av A3 σ3 H3 δ1 E3 o1 hφ _ ?_;cases o1 with
      |nx δ2=>exact λA4 σ4 H4 E4=>⟨A4,δ2,E4,e'⟩
      |ct δ2=>exact λA4 σ4 H4 E4=>⟨A4,δ2,E4,e'⟩
      |bk δ2=>cases e';exact λA4 σ4 H4 E4=>k A4 σ4 H4 (E1.uncut E4)
      |rt d=>cases e';exact λv H4 s4 r4=>k v H4 (E1.sub0.trans s4) r4
  · have ei:i=xs.length:=by omega
    subst ei;rw [List.drop_length]at e';cases e';exact .inl ⟨w3 _ (Nat.le_refl _),k A' σ' H' (E1.uncut E')⟩
def U6(j:Nat)(α:Env->Option D)(δ:Env):Option (List D×Env):=match α δ,Za j δ with
 |some x,some (.lst xs)=>match xs[xs.length-1]? with
  |some y=>match ZH (λ_=>ixD x y) []with
   |some ds=>some (ds,δ.set j (some (.lst xs.dropLast)))
   |none=>none
  |none=>none
 |_,_=>none
theorem Zfu{ta:TE}{α:Env->Option D}(j:Nat)(hj:ow.contains j=true)(h:VE G ow ta .cl α):VIP G ow (Vx G.1.K (tOp (Uw G.1.K) ta (Ua G.1.K "list" rPop (Yy j)))) (U6 j α):=λH0 av A σ H δ E ds δ' e R k=>by
 unfold U6 at e
 split at e
 · rename_i x xs ex ev
   cases hy:xs[xs.length-1]? with
   |none=>rw [hy]at e;cases e
   |some y=>
    rw [hy]at e;dsimp only at e;cases hi:ZH (λ_=>ixD x y) []with
    |none=>rw [hi]at e;cases e
    |some ds'=>
     rw [hi]at e;cases e;have hj':j∈ow:=by simpa using hj
     cases hA:A j with
     |none=>exact absurd hA (E.dom' j hj')
     |some a=>
      unfold ZH at hi;cases hd:ixD x y with
      |none=>rw [hd]at hi;cases hi
      |some d=>
       rw [hd]at hi;refine h H0 av A σ H δ E x ex _ λvx H1 s1 r1 => ?_
       have E1:=E.mono s1;obtain⟨v0,g1,_,g3⟩:=E1.var j _ (Xa ev);obtain⟨rfl,vs,q1,q2⟩:=g3 a hA;obtain⟨vy,hvy,ry⟩:=q2.get hy
       have xt:∀b o,¬AV av A b->H1 b=some o->upd H1 a (.lst vs.dropLast) b=some o:=λb o nb e=>by
        rw [ZI λz=>nb (.inr ⟨j,by rw [z];exact hA⟩)];exact e
       have E2:=E1.put hA (Xa ev) (H':=upd H1 a (.lst vs.dropLast)) (d' := .lst xs.dropLast) (λb o hb e=>by rw [ZI hb];exact e) (by rw [ZN];exact λz=>by cases z) ⟨_,ZN,(RepL.dropLast q2).ext xt⟩;refine⟨_,g1,.inl ⟨rfl,vs,SqL.of q1⟩,a,vs,vy,rfl,rfl,q1,by rw [<-q2.length];exact hvy,?_⟩;refine Zy (AV av A) (AV av A) (AV av A) _ x y vx vy d E2.avl ((RepT.r r1).ext xt).t (ry.ext xt).t hd _ λv H' s r => ?_
       have E3:=E2.mono s;cases d<;>first|(cases hi;done)|skip
       · cases hi
         exact .inr (.inr ⟨_,r,k _ H' E3 Zbq⟩)
       · cases hi
         obtain⟨a',vs',rfl,na,rd,l⟩:=r;exact .inl ⟨a',vs',rfl,rd,k _ H' E3 (ZaU (Zdp na rd λb o n e=>by rw [Vz λ⟨i,z⟩=>n (.inr ⟨i,z⟩)];exact e) l.cut)⟩
       · cases hi
         obtain⟨a',vs',rfl,na,rd,l⟩:=r;exact .inr (.inl ⟨a',vs',rfl,SqT.of rd,k _ H' E3 (Zbp (by rw [Vz λ⟨i,z⟩=>na (.inr ⟨i,z⟩)];exact rd) l.cut)⟩)
 · cases e
end
end DL
namespace DL
open PySem PySem.Spec PyProof.Rows L2
section
variable{prog:Program}{w:World}{A:Around}{E:Value->Shared->Prop}{s:Shared}{l:Addr}{xs:Array (Int×Tok)}
theorem Zag {Q:Value->Shared->Prop} (hl:s.heap.IsTuple l (intItems xs))
 (h:∀s₂:Shared,s₂={ s with heap:=s.heap.push { cls := .type "tuple_iterator",data := .fields #[.ref l,.int 0 0] } } ->
   (s₂.heap.IsTupleIter s.heap.objs.size l 0/\s₂.heap.IsTuple l (intItems xs))->(∀b∈[s.heap.objs.size,l],b<s₂.heap.objs.size)->l≠s.heap.objs.size->Q (.ref s.heap.objs.size) s₂) :
 wpAny (model prog w) A (pyIter (.ref l)) Q E s:=by
 have hlt:l<s.heap.objs.size:=by obtain⟨_,e,_⟩:=hl;exact Heap.lt_size e
 refine wpAny_pyIter_tuple hl (h _ rfl ⟨⟨_,Heap.get?_push_size _ rfl,rfl,rfl⟩,hl.push _⟩ (λb hb => ?_) (Nat.ne_of_lt hlt));show b<(s.heap.push _).objs.size;rw [Heap.size_push];rcases List.mem_cons.mp hb with rfl|hb
 · exact Nat.lt_succ_self _
 · rcases List.mem_cons.mp hb with rfl|hb
   · exact Nat.lt_succ_of_lt hlt
   · cases hb
theorem Zay {h':Heap} (hk:∀b o,b∉[s.heap.objs.size]->(s.heap.push { cls := .type "tuple_iterator",data := .fields #[.ref l,.int 0 0] }).get? b=some o->h'.get? b=some o) :
 ∀b o,s.heap.get? b=some o->h'.get? b=some o:=λb o e=>by
 refine hk b o (λhm => ?_) (Heap.get?_push_of_some _ e);rcases List.mem_cons.mp hm with e1|hm
 · exact absurd (e1▸Heap.lt_size e) (Nat.lt_irrefl _)
 · cases hm
theorem Zdf {Q:Value->Shared->Prop} (hh:A.handled=none) (hl:s.heap.IsTuple l (intItems xs)) (hne:0<xs.size)
 (h:∀v h' tk,(intItems xs)[argBest (λi j=>decide (numAt xs i>numAt xs j)) (xs.size-1)]? = some v->(∀b o,s.heap.get? b=some o->h'.get? b=some o)->Q v { s with heap:=h',toks:=tk }) :
 wpAny (model prog w) A (call (.builtin "max") [.ref l]) Q E s:=by
 refine call_max_walk (Zag hl λs₂ e st hfp hlI => ?_);subst e;refine⟨_,_,_,_,_,_,_,rfl,Walks.tuple (A:=A.in1) hh _ l hlI (intItems xs),st,hfp,by simpa [intItems]using hne,CmpOf.ints_gt (numAt xs) (λ_ _=>intItems_at),λv h' tk hP hk => ?_⟩;exact h v h' tk (by simpa [intItems]using hP) (Zay hk)
theorem Zdg {Q:Value->Shared->Prop} (hh:A.handled=none) (hl:s.heap.IsTuple l (intItems xs)) (hne:0<xs.size)
 (h:∀v h' tk,(intItems xs)[argBest (λi j=>decide (numAt xs i<numAt xs j)) (xs.size-1)]? = some v->(∀b o,s.heap.get? b=some o->h'.get? b=some o)->Q v { s with heap:=h',toks:=tk }) :
 wpAny (model prog w) A (call (.builtin "min") [.ref l]) Q E s:=by
 refine call_min_walk (Zag hl λs₂ e st hfp hlI => ?_);subst e;refine⟨_,_,_,_,_,_,_,rfl,Walks.tuple (A:=A.in1) hh _ l hlI (intItems xs),st,hfp,by simpa [intItems]using hne,CmpOf.ints_lt (numAt xs) (λ_ _=>intItems_at),λv h' tk hP hk => ?_⟩;exact h v h' tk (by simpa [intItems]using hP) (Zay hk)
end
def Ziy(K:PySem.W.Frag):List V->Hp->VK->Prop:=λxs H Q=>∃(p:Addr) (ns:List Int),xs=[.ref p]/\SqT K H p (ns.map V.int)/\0<ns.length/\Q (.int (VD ns)) H
def Ziz(K:PySem.W.Frag):List V->Hp->VK->Prop:=λxs H Q=>∃(p:Addr) (ns:List Int),xs=[.ref p]/\SqT K H p (ns.map V.int)/\0<ns.length/\Q (.int (VQ ns)) H
def ZiA(K:PySem.W.Frag):List V->Hp->VK->Prop:=λxs H Q=>ZgQ K xs H Q\/Ziy K xs H Q
def ZiB(K:PySem.W.Frag):List V->Hp->VK->Prop:=λxs H Q=>ZgT K xs H Q\/Ziz K xs H Q
section
variable{X:Cx}{K:PySem.W.Frag}{cA:Kn}
theorem ZeH(hc:X.calm=true):Z6 X (.builtin "max") (Ziy X.K):=by
 intro pins s σ H xs us Q I rs h;obtain⟨p,ns,rfl,hq,hne,q⟩:=h;obtain⟨u,rfl,rx⟩:=YV rs;cases rx;obtain⟨its,rv,hl,hz⟩:=I.tuple hq;have hi:=Uj ns its rv;obtain⟨ys,e⟩:=hi.allInts.items
 have hns:ns=ys.toList.map (·.1):=by
  rw [<-hi.numsOf,<-nums_intItems,<-e]
 have hsz:0<ys.size:=by
  have h3:=hne;rw [hns,List.length_map,Array.length_toList]at h3;exact h3
 rw [e]at hl;refine Zdf (I.ok.hd hc) hl hsz λv h' tk hv hk => ?_
 obtain⟨t,rfl⟩:=intItems_at hv;obtain⟨h1,h2⟩:=argBest_gt (numAt ys) (ys.size-1)
 have hM:=Zbt (ns:=ns) (M:=numAt ys (argBest (λi j=>decide (numAt ys i>numAt ys j)) (ys.size-1))) (by
  rw [hns,numAt_eq];exact getD_mem (by rw [List.length_map,Array.length_toList];omega)) (λa ha=>by
  rw [hns]at ha;obtain⟨j,hj,rfl⟩:=mem_getD ha;rw [List.length_map,Array.length_toList]at hj;rw [<-numAt_eq];exact h2 j (by omega))
 exact⟨.int (VD ns),H,I.kept hk,⟨t,by rw [hM]⟩,q⟩
theorem ZeI(hc:X.calm=true):Z6 X (.builtin "min") (Ziz X.K):=by
 intro pins s σ H xs us Q I rs h;obtain⟨p,ns,rfl,hq,hne,q⟩:=h;obtain⟨u,rfl,rx⟩:=YV rs;cases rx;obtain⟨its,rv,hl,hz⟩:=I.tuple hq;have hi:=Uj ns its rv;obtain⟨ys,e⟩:=hi.allInts.items
 have hns:ns=ys.toList.map (·.1):=by
  rw [<-hi.numsOf,<-nums_intItems,<-e]
 have hsz:0<ys.size:=by
  have h3:=hne;rw [hns,List.length_map,Array.length_toList]at h3;exact h3
 rw [e]at hl;refine Zdg (I.ok.hd hc) hl hsz λv h' tk hv hk => ?_
 obtain⟨t,rfl⟩:=intItems_at hv;obtain⟨h1,h2⟩:=argBest_lt (numAt ys) (ys.size-1)
 have hM:=Zbu (ns:=ns) (M:=numAt ys (argBest (λi j=>decide (numAt ys i<numAt ys j)) (ys.size-1))) (by
  rw [hns,numAt_eq];exact getD_mem (by rw [List.length_map,Array.length_toList];omega)) (λa ha=>by
  rw [hns]at ha;obtain⟨j,hj,rfl⟩:=mem_getD ha;rw [List.length_map,Array.length_toList]at hj;rw [<-numAt_eq];exact h2 j (by omega))
 exact⟨.int (VQ ns),H,I.kept hk,⟨t,by rw [hM]⟩,q⟩
theorem Zgm(hc:X.calm=true:=by rfl)(hK:X.K=K:=by rfl):Z6 X (.builtin "max") (ZiA K):=hK▸λpins s σ H xs us Q I rs h=>h.elim (ZeC hc pins s σ H xs us Q I rs) (ZeH hc pins s σ H xs us Q I rs)
theorem Zgn(hc:X.calm=true:=by rfl)(hK:X.K=K:=by rfl):Z6 X (.builtin "min") (ZiB K):=hK▸λpins s σ H xs us Q I rs h=>h.elim (ZeG hc pins s σ H xs us Q I rs) (ZeI hc pins s σ H xs us Q I rs)
def maxQD:List D->Option D
 | [.tup xs]=>match YE xs with
  |some ns=>if 0<ns.length then some (.int (VD ns))else none
  |none=>none
 |ds=>maxLD ds
def minQD:List D->Option D
 | [.tup xs]=>match YE xs with
  |some ns=>if 0<ns.length then some (.int (VQ ns))else none
  |none=>none
 |ds=>minLD ds
theorem ZdX:X1 cA (ZiA cA.K) maxQD:=λi H ds vs d ha h e Q k=>by
 unfold maxQD at e
 split at e
 · rename_i xs
   cases hb:YE xs with
   |none=>rw [hb]at e;cases e
   |some bs=>
    rw [hb]at e;dsimp only at e
    by_cases hz:0<bs.length
    · rw [if_pos hz]at e
      cases e;obtain⟨v,t,rfl,a,ws,rfl,_,rd,l⟩:=il1 h;have ex:=Ui hb;subst ex;have ev:=l.vals (by rw [List.all_map];exact List.all_eq_true.mpr λ_ _=>rfl);rw [List.map_map]at ev;subst ev;exact .inr ⟨a,bs,rfl,SqT.of rd,hz,k _ H (Same.refl H) rfl⟩
    · rw [if_neg hz]at e;cases e
 · exact .inl (Zhn i H _ vs d ha h e Q k)
theorem ZdY:X1 cA (ZiB cA.K) minQD:=λi H ds vs d ha h e Q k=>by
 unfold minQD at e
 split at e
 · rename_i xs
   cases hb:YE xs with
   |none=>rw [hb]at e;cases e
   |some bs=>
    rw [hb]at e;dsimp only at e
    by_cases hz:0<bs.length
    · rw [if_pos hz]at e
      cases e;obtain⟨v,t,rfl,a,ws,rfl,_,rd,l⟩:=il1 h;have ex:=Ui hb;subst ex;have ev:=l.vals (by rw [List.all_map];exact List.all_eq_true.mpr λ_ _=>rfl);rw [List.map_map]at ev;subst ev;exact .inr ⟨a,bs,rfl,SqT.of rd,hz,k _ H (Same.refl H) rfl⟩
    · rw [if_neg hz]at e;cases e
 · exact .inl (ZhB i H _ vs d ha h e Q k)
end
end DL
namespace DL
open PySem PySem.Spec L2
section
variable{cA:Kn}{G:Cn}{ow:List Nat}
def NewL(H0 H:Hp)(vs:List V):Prop:=∀v∈vs,∃b ws,v = .ref b/\H b=some (.lst ws)/\H0 b=none
theorem NewL.same{H0 H H':Hp}{vs:List V}(h:NewL H0 H vs)(s:Same H H'):NewL H0 H' vs:=λv hv=>let⟨b,ws,e,r,f⟩:=h v hv;⟨b,ws,e,s _ _ r,f⟩
def VFN(G:Cn)(ow:List Nat)(te:TE)(ε:Env->Option D):Prop:=
 ∀H0 av A σ H δ,ER G ow H0 av A σ H δ->∀d,ε δ=some d->∀Q:VK,(∀p vs xs H1,Same H H1->H1 p=none->RepL G.1 (AV av A) H1 xs vs->NewL H H1 vs->d = .lst xs->Q (.ref p) (upd H1 p (.lst vs)))->te σ H Q
theorem Zfv {wi:TI} {g:TG} {tt:TT} {te:TE} {n:Nat} {js:List Nat} {ι:Env->Option (List D)} {γ:D->Env->Option Env} {τ:Env->Option Bool} {ε:Env->Option D}
 (hjs:js.all (λj => !ow.contains j)=true) (hi:VI G ow wi ι) (hg:VG ⟨G.1,λ_=>none⟩ [] [] g γ) (ht:VT ⟨G.1,λ_=>none⟩ [] tt τ) (he:VF ⟨G.1,λ_=>none⟩ [] te ε):VFN G ow (Qk wi g tt te n js) (ZC ι γ τ ε n js):=λH0 av A σ H δ E d e Q k=>by
 unfold ZC at e;cases hι:ι δ with
 |none=>rw [hι]at e;cases e
 |some xs=>
  rw [hι]at e;dsimp only at e;cases hc:Ym γ τ ε (Yv n δ js) xs with
  |none=>rw [hc]at e;cases e
  |some full=>
   rw [hc]at e;dsimp only at e
   by_cases hz:full.length<=sizeLine
   · rw [if_pos hz]at e
     have ed:D.lst full=d:=Option.some.inj e;refine hi H0 av A σ H δ E xs hι _ λJ H1 s1 W => ?_
     have E1:=E.mono s1
     refine⟨λi m ys H'=>m=xs.length-i/\i<=xs.length/\Same H1 H'/\NewL H H' ys/\∃done rest,RepL G.1 (AV av A) H' done ys/\Ym γ τ ε (Yv n δ js) (xs.drop i)=some rest/\done++rest=full,
      ⟨xs.length,by simp,Nat.zero_le _,Same.refl _,(λv hv=>by cases hv),[],full,.nil,hc,rfl⟩,?_⟩
     rintro i m ys H' ⟨rfl,hle,s',nw,done,rest,rl,hr,hf⟩
     have E':=E1.mono s';have sc:Same (DL.cut A H1) H':=λb o z=>s' b o (QZ z).1
     obtain⟨w1,w2,w3⟩:=W H' sc
     by_cases hlt:i<xs.length
     · refine .inr ⟨w1 i hlt,λv H2 y => ?_⟩
       have hx:xs[i]? = some xs[i]:=List.getElem?_eq_getElem hlt;obtain⟨s2,rep⟩:=w2 i _ v H2 hx y;have rep':Rep G.1 (AV av A) H2 xs[i] v:=rep _ E'.avl λb z => .inl z
       have E2:=E'.mono s2;have EB:ER ⟨G.1,λ_=>none⟩ [] H2 (AV av A) (λ_=>none) (L2.blk n σ js) H2 (Yv n δ js):=E2.blk n js hjs
       have triv:∀(A':Nat->Option Addr){σ':L2.St}{H3:Hp}{δ':Env},ER ⟨G.1,λ_=>none⟩ [] H2 (AV av A) A' σ' H3 δ'->∀b,AV (AV av A) A' b ↔ AV av A b:=λA' {σ' H3 δ'} E3 b=>by
        constructor
        · rintro(z|⟨j,z⟩)
          · exact z
          · have:=E3.dom j (by rw [z];exact λz=>by cases z)
            cases this
        · exact λz => .inl z
       rw [List.drop_eq_getElem_cons hlt]at hr;unfold Ym at hr;cases hγ:γ xs[i] (Yv n δ js)with
       |none=>rw [hγ]at hr;cases hr
       |some δ1=>
        rw [hγ]at hr;dsimp only at hr;refine hg _ _ _ _ H2 _ EB _ v (rep'.av λb z => .inl ((triv _ EB b).mp z)) δ1 hγ _ λA3 σ3 H3 s3 E3 => ?_
        cases hτ:τ δ1 with
        |none=>rw [hτ]at hr;cases hr
        |some c=>
         rw [hτ]at hr;refine ht _ _ A3 σ3 H3 δ1 E3 c hτ _ λH4 s4 => ?_
         have E4:=E3.mono s4;have s24:Same H' H4:=(s2.trans s3).trans s4;cases c with
         |false=>
          exact XX ⟨xs.length-(i+1),by omega,rfl,hlt,s'.trans s24,nw.same s24,done,rest,rl.same s24,hr,hf⟩
         |true=>
          dsimp only at hr;cases hε:ε δ1 with
          |none=>rw [hε]at hr;cases hr
          |some yd=>
           rw [hε]at hr;dsimp only at hr;cases hr':Ym γ τ ε (Yv n δ js) (xs.drop (i+1))with
           |none=>rw [hr']at hr;cases hr
           |some rest'=>
            rw [hr']at hr;have hrr:yd::rest'=rest:=Option.some.inj hr;subst hrr;refine XY (he _ _ A3 σ3 H4 δ1 E4 yd hε _ λp ws ds H5 s5 hp r5 ey => ?_);subst ey;have s45:Same H4 (upd H5 p (.lst ws)):=s5.trans (ZU hp);have sall:Same H' (upd H5 p (.lst ws)):=s24.trans s45;have hH:H p=none:=(s1.trans (s'.trans (s24.trans s5))).free hp;have hnp:¬AV av A p:=λz=>(E.avl p z) hH
            refine⟨?_,xs.length-(i+1),by omega,rfl,hlt,s'.trans sall,?_,done++[.lst ds],rest',(rl.same sall).append (.cons ?_ .nil),hr',by rw [<-hf];simp⟩
            · have:=congrArg List.length hf
              rw [List.length_append,List.length_cons]at this;have:=rl.length;omega
            · intro v hv
              rcases List.mem_append.mp hv with z|z
              · exact nw.same sall v z
              · rw [List.mem_singleton.mp z]
                exact⟨p,ws,rfl,ZN,hH⟩
            · exact⟨p,ws,rfl,λz=>absurd z hnp,SqL.of ZN,(r5.av λb z => .inl ((triv _ E4 b).mpr z)).same (ZU hp)⟩
     · have ei:i=xs.length:=by omega
       subst ei;rw [List.drop_length]at hr;cases hr;refine .inl ⟨w3 _ (Nat.le_refl _),λp hp=>k p ys full H' (s1.trans s') hp (by rw [<-hf,List.append_nil];exact rl) nw ed.symm⟩
   · rw [if_neg hz]at e;cases e
mutual
theorem Rep.kind{av:Addr->Prop}{H H':Hp}:∀{d:D}{v:V},frz d=true->(∀b o,H b=some o->(∀vs,o ≠ .lst vs)->H' b=some o)->Rep cA av H d v->Rep cA av H' d v
 | .non,_,_,_,h=>h
 | .bl _,_,_,_,h=>h
 | .int _,_,_,_,h=>h
 | .str _,_,_,_,h=>h
 | .lst xs,v,hf,k,h=>by cases hf
 | .tup xs,v,hf,k,h=>by
  unfold DL.frz at hf;unfold Rep at h ⊢;obtain⟨a,vs,e,n,r,l⟩:=h;exact⟨a,vs,e,n,k _ _ r (λ_ z=>by cases z),RepL.kind hf k l⟩
 | .obj c ks xs,v,hf,k,h=>by
  unfold DL.frz at hf;unfold Rep at h ⊢;obtain⟨a,dx,vs,e,n,r,z,l⟩:=h;exact⟨a,dx,vs,e,n,k _ _ r (λ_ z=>by cases z),z,RepL.kind hf k l⟩
 | .dct ks xs,v,hf,k,h=>by cases hf
 | .dtt ks xs,v,hf,k,h=>by cases hf
theorem RepL.kind{av:Addr->Prop}{H H':Hp}:∀{xs:List D}{vs:List V},frzL xs=true->(∀b o,H b=some o->(∀vs,o ≠ .lst vs)->H' b=some o)->RepL cA av H xs vs->RepL cA av H' xs vs
 | [],_,_,_,h=>h
 |x::xs,vs,hf,k,h=>by
  unfold DL.frzL at hf;rw [Bool.and_eq_true]at hf;unfold RepL at h ⊢;obtain⟨v,r,e,h1,h2⟩:=h;exact⟨v,r,e,Rep.kind hf.1 k h1,RepL.kind hf.2 k h2⟩
end
structure Turned(H0 H H':Hp)(S:Addr->Prop):Prop where
 else_:∀b,¬S b->H' b=H b
 lst:∀b,S b->∃ws,H' b=some (.lst ws)
 old:∀b,S b->∃ws,H b=some (.lst ws)
 new:∀b,S b->H0 b=none
theorem Turned.kind{H0 H H':Hp}{S:Addr->Prop}(T:Turned H0 H H' S):∀b o,H b=some o->(∀vs,o ≠ .lst vs)->H' b=some o:=λb o e n=>by
 have hs:¬S b:=λz=>by
  obtain⟨ws,w⟩:=T.old b z;rw [w]at e;cases e;exact n ws rfl
 rw [T.else_ b hs];exact e
theorem Turned.same{H0 H H':Hp}{S:Addr->Prop}(T:Turned H0 H H' S)(s:Same H0 H):Same H0 H':=λb o e=>by
 have hs:¬S b:=λz=>by rw [T.new b z]at e;cases e
 rw [T.else_ b hs];exact s b o e
theorem Turned.clear{H0 H H':Hp}{S:Addr->Prop}{b:Addr}(T:Turned H0 H H' S)(hb:S b):Turned H0 H (upd H' b (.lst [])) S:=
 ⟨λc hc=>by rw [ZI (λz=>hc (by rw [z];exact hb))];exact T.else_ c hc,λc hc=>by
   by_cases e:c=b
   · subst e;exact⟨[],ZN⟩
   · rw [ZI e];exact T.lst c hc,T.old,T.new⟩
theorem ZaX {K:PySem.W.Frag} {H0 H:Hp} {S:Addr->Prop} {a:Addr} {vs:List V} {j:Nat} {σ:L2.St} {te:TE} {De:Ends} {H1:Hp} (hj:j<σ.length)
 (hte:∀Q:VK,Q (.ref a) H1->te σ H1 Q) (T:Turned H0 H H1 S) (ha:¬S a) (hl:H a=some (.lst vs)) (hv:∀v∈vs,∃b,v = .ref b/\S b)
 (k:∀σ' H',(∀i,i≠j->σ'[i]? = σ[i]?)->σ'.length=σ.length->Turned H0 H H' S->De.nx σ' H'):Vu (Vx K te) (YU j) (V8 (Ua K "list" rClear (Yy j))) De σ H1:=by
 refine hte _ (.inl ⟨a,vs,rfl,SqL.of (by rw [T.else_ a ha];exact hl),?_⟩);refine⟨λi m σ' H'=>m=vs.length-i/\i<=vs.length/\(∀n,n≠j->σ'[n]? = σ[n]?)/\σ'.length=σ.length/\Turned H0 H H' S,⟨vs.length,by simp,Nat.zero_le _,λ_ _=>rfl,rfl,T⟩,?_⟩
 rintro i m σ' H' ⟨rfl,hle,h1,h2,T'⟩
 have sq:SqL K H' a vs:=SqL.of (by rw [T'.else_ a ha];exact hl)
 by_cases hlt:i<vs.length
 · refine .inr ⟨⟨vs,vs[i],sq,List.getElem?_eq_getElem hlt⟩,λσ2 H2=>(∀n,n≠j->σ2[n]? = σ[n]?)/\σ2.length=σ.length/\Turned H0 H H2 S,λσ2 H2 ⟨g1,g2,g3⟩=>⟨vs.length-(i+1),by omega,rfl,hlt,g1,g2,g3⟩,λx H2 y => ?_⟩
   obtain⟨rfl,y⟩:=y;have hx:=y vs sq;rw [List.getElem?_eq_getElem hlt]at hx;have hx:vs[i]=x:=Option.some.inj hx;obtain⟨b,e,hb⟩:=hv vs[i] (List.getElem_mem hlt);rw [e]at hx;subst hx;obtain⟨ws,hw⟩:=T'.lst b hb
   have hjj:(σ'.set j (some (V.ref b)))[j]? = some (some (.ref b)):=by
    rw [List.getElem?_set_self (by rw [h2];exact hj)]
   refine⟨.ref b,hjj,.inl ⟨rfl,ws,SqL.of hw⟩,b,ws,rfl,rfl,hw,?_⟩;exact⟨λn hn=>by rw [List.getElem?_set_ne (Ne.symm hn)];exact h1 n hn,by rw [List.length_set];exact h2,T'.clear hb⟩
 · have ei:i=vs.length:=by omega
   subst ei;exact .inl ⟨⟨vs,sq,Nat.le_refl _⟩,k σ' H' h1 h2 T'⟩
end
end DL
namespace DL
open PySem PySem.Spec L2
section
variable{cA:Kn}{G:Cn}{owN owB owC:List Nat}
theorem Turned.refl{H0 H:Hp}{S:Addr->Prop}(h1:∀b,S b->∃ws,H b=some (.lst ws))(h2:∀b,S b->H0 b=none):Turned H0 H H S:=⟨λ_ _=>rfl,h1,h1,h2⟩
theorem Turned.more{H0 H H':Hp}{S S':Addr->Prop}(T:Turned H0 H H' S)(hs:∀b,S b->S' b)(h1:∀b,S' b->∃ws,H b=some (.lst ws))(h2:∀b,S' b->H0 b=none):Turned H0 H H' S':=
 ⟨λb hb=>T.else_ b λz=>hb (hs b z),λb hb=>by
   by_cases z:S b
   · exact T.lst b z
   · rw [T.else_ b z];exact h1 b hb,h1,h2⟩
def Q9(ip iw ir iq:Nat)(ε0 ε1 ε2 εm:Env->Option D)(δ:Env):Option Out:=match ε0 δ,ε1 δ,ε2 δ with
 |some d0,some d1,some d2=>match εm (δ.set ip (some (.lst [d0,d1,d2])))with
  |some dw=>if frz dw=true/\ip<δ.length/\iw<δ.length/\ir<δ.length/\iq<δ.length then some (.rt dw)else none
  |none=>none
 |_,_,_=>none
theorem ZeJ {t0 t1 t2 tm:TE} {ε0 ε1 ε2 εm:Env->Option D} (ip iw ir iq:Nat) (hpw:ip≠iw) (hpr:ip≠ir) (hpq:ip≠iq) (hwr:iw≠ir) (hwq:iw≠iq) (hn:G.2 ip=none)
 (h0:VF G [] t0 ε0) (h1:VF G [] t1 ε1) (h2:VFN G [] t2 ε2) (hm:VE G [] tm .cl εm) :
 VS G [] owN owB owC (V7 (XU (J5 (XV t0 (XV t1 (XV t2 tNil)))) (YU ip)) (V7 (XU tm (YU iw)) (V7 (Vu (Vx G.1.K (tOp (Uw G.1.K) (Yy ip) (tC (.int 2)))) (YU ir) (V8 (Ua G.1.K "list" rClear (Yy ir))))
  (V7 (Vu (Vx G.1.K (Yy ip)) (YU iq) (V8 (Ua G.1.K "list" rClear (Yy iq)))) (JP (Yy iw)))))) (Q9 ip iw ir iq ε0 ε1 ε2 εm):=λH0 av A σ H δ E o e De k=>by
 unfold Q9 at e
 split at e
 case h_2=>cases e
 rename_i d0 d1 d2 e0 e1 e2;cases em:εm (δ.set ip (some (.lst [d0,d1,d2])))with
 |none=>rw [em]at e;cases e
 |some dw=>
  rw [em]at e;dsimp only at e
  by_cases hc:frz dw=true/\ip<δ.length/\iw<δ.length/\ir<δ.length/\iq<δ.length
  case neg=>rw [if_neg hc]at e;cases e
  rw [if_pos hc]at e;cases e;obtain⟨hf,l1,l2,l3,l4⟩:=hc;have hlen:=E.len;have nav:∀b,H b=none->¬AV av A b:=λb hb z=>E.avl b z hb
  refine h0 H0 av A σ H δ E d0 e0 _ λp0 vs0 xs0 H1 s1 f0 r0 ed0 => ?_
  have sA:Same H (upd H1 p0 (.lst vs0)):=s1.trans (ZU f0);have EA:=E.mono sA;refine h1 H0 av A σ _ δ EA d1 e1 _ λp1 vs1 xs1 H2 s2 f1 r1 ed1 => ?_
  have sB:Same (upd H1 p0 (.lst vs0)) (upd H2 p1 (.lst vs1)):=s2.trans (ZU f1);have EB:=EA.mono sB;refine h2 H0 av A σ _ δ EB d2 e2 _ λp2 vs2 xs2 H3 s3 f2 r2 nw ed2 => ?_
  have sC:Same (upd H2 p1 (.lst vs1)) (upd H3 p2 (.lst vs2)):=s3.trans (ZU f2);refine⟨by show 3<=sizeLine;rw [PySem.sizeLine_eq];omega,λp fp => ?_⟩;have sD:Same (upd H3 p2 (.lst vs2)) (upd (upd H3 p2 (.lst vs2)) p (.lst [.ref p0,.ref p1,.ref p2])):=ZU fp;have q0:upd (upd H3 p2 (.lst vs2)) p (.lst [V.ref p0,.ref p1,.ref p2]) p0=some (.lst vs0):=sD _ _ (sC _ _ (sB _ _ ZN))
  have q1:upd (upd H3 p2 (.lst vs2)) p (.lst [V.ref p0,.ref p1,.ref p2]) p1=some (.lst vs1):=sD _ _ (sC _ _ ZN);have q2:upd (upd H3 p2 (.lst vs2)) p (.lst [V.ref p0,.ref p1,.ref p2]) p2=some (.lst vs2):=sD _ _ ZN;have n0:H p0=none:=s1.free f0;have n1:H p1=none:=sA.free (s2.free f1);have n2:H p2=none:=sA.free (sB.free (s3.free f2));have np:H p=none:=sA.free (sB.free (sC.free fp))
  have sAll:Same H (upd (upd H3 p2 (.lst vs2)) p (.lst [V.ref p0,.ref p1,.ref p2])):=sA.trans (sB.trans (sC.trans sD));have sAD:Same (upd H1 p0 (.lst vs0)) _:=sB.trans (sC.trans sD);subst ed0;subst ed1;subst ed2;have R0:Rep G.1 (AV av A) (upd (upd H3 p2 (.lst vs2)) p (.lst [V.ref p0,.ref p1,.ref p2])) (.lst xs0) (.ref p0):=⟨p0,vs0,rfl,λz=>absurd z (nav _ n0),SqL.of q0,r0.same ((ZU f0).trans sAD)⟩
  have R1:Rep G.1 (AV av A) (upd (upd H3 p2 (.lst vs2)) p (.lst [V.ref p0,.ref p1,.ref p2])) (.lst xs1) (.ref p1):=⟨p1,vs1,rfl,λz=>absurd z (nav _ n1),SqL.of q1,r1.same ((ZU f1).trans (sC.trans sD))⟩
  have R2:Rep G.1 (AV av A) (upd (upd H3 p2 (.lst vs2)) p (.lst [V.ref p0,.ref p1,.ref p2])) (.lst xs2) (.ref p2):=⟨p2,vs2,rfl,λz=>absurd z (nav _ n2),SqL.of q2,r2.same ((ZU f2).trans sD)⟩
  have RP:Rep G.1 (AV av A) (upd (upd H3 p2 (.lst vs2)) p (.lst [V.ref p0,.ref p1,.ref p2])) (.lst [.lst xs0,.lst xs1,.lst xs2]) (.ref p):=⟨p,_,rfl,λz=>absurd z (nav _ np),SqL.of ZN,.cons R0 (.cons R1 (.cons R2 .nil))⟩
  have ED:=(E.mono sAll).set (ow1:=[]) RP (λj=>by simp) hn;refine hm H0 av _ _ _ _ ED dw em _ λvw HE sE rw_ => ?_
  have rw_:=(RepT.r rw_).av (av':=av) λb z => .inl (.inl z)
  have g1:((σ.set ip (some (V.ref p))).set iw (some vw))[ip]? = some (some (.ref p)):=by
   rw [List.getElem?_set_ne (Ne.symm hpw),List.getElem?_set_self (by rw [hlen];exact l1)]
  have g2:((σ.set ip (some (V.ref p))).set iw (some vw))[iw]? = some (some vw):=by
   rw [List.getElem?_set_self (by rw [List.length_set,hlen];exact l2)]
  have gl:((σ.set ip (some (V.ref p))).set iw (some vw)).length=δ.length:=by rw [List.length_set,List.length_set,hlen]
  have new3:∀b,V.ref b∈vs2->∃ws,H3 b=some (.lst ws)/\H b=none:=λb hb=>by
   obtain⟨b',ws,e',g,f⟩:=nw _ hb;cases e';exact⟨ws,g,sA.free (sB.free f)⟩
  have h0n:∀b,H b=none->H0 b=none:=λb hb=>E.same.free hb
  have hp2:V.ref p2∉vs2:=λz=>by
   obtain⟨ws,g,_⟩:=new3 _ z;rw [f2]at g;cases g
  have hHEp:HE p=some (.lst [.ref p0,.ref p1,.ref p2]):=sE _ _ ZN
  have lst3:∀b,V.ref b∈vs2->∃ws,HE b=some (.lst ws):=λb hb=>by
   obtain⟨ws,g,_⟩:=new3 _ hb;exact⟨ws,sE _ _ (sD _ _ ((ZU f2) _ _ g))⟩
  have new0:∀b,V.ref b∈vs2->H0 b=none:=λb hb=>by
   obtain⟨_,_,f⟩:=new3 _ hb;exact h0n b f
  have lst4:∀b,(b=p0\/b=p1\/b=p2\/V.ref b∈vs2)->∃ws,HE b=some (.lst ws):=λb hb=>by
   rcases hb with rfl|rfl|rfl|z
   · exact⟨_,sE _ _ q0⟩
   · exact⟨_,sE _ _ q1⟩
   · exact⟨_,sE _ _ q2⟩
   · exact lst3 b z
  have new4:∀b,(b=p0\/b=p1\/b=p2\/V.ref b∈vs2)->H0 b=none:=λb hb=>by
   rcases hb with rfl|rfl|rfl|z
   · exact h0n _ n0
   · exact h0n _ n1
   · exact h0n _ n2
   · exact new0 b z
  have hpS:¬(p=p0\/p=p1\/p=p2\/V.ref p∈vs2):=λz=>by
   rcases z with z|z|z|z
   · rw [z,sC _ _ (sB _ _ ZN)]at fp;cases fp
   · rw [z,sC _ _ ZN]at fp;cases fp
   · rw [z,ZN]at fp;cases fp
   · obtain⟨ws,g,_⟩:=new3 _ z
     rw [(ZU f2) _ _ g]at fp;cases fp
  have sHE:Same H0 HE:=E.same.trans (sAll.trans sE);show Vu (Vx G.1.K (tOp (Uw G.1.K) (Yy ip) (tC (.int 2)))) (YU ir) (V8 (Ua G.1.K "list" rClear (Yy ir))) _ ((σ.set ip (some (V.ref p))).set iw (some vw)) HE;refine ZaX (H0:=H0) (H:=HE) (S:=λb=>V.ref b∈vs2) (a:=p2) (vs:=vs2) (by rw [gl];exact l3) (λQ hQ => ?_) (Turned.refl lst3 new0) hp2 (sE _ _ q2) (λv hv => ?_) λσ3 H3' g3 g3l T3 => ?_
  · exact⟨.ref p,g1,.inl ⟨p,_,2,.ref p2,rfl,rfl,SqL.of hHEp,rfl,hQ⟩⟩
  · obtain⟨b,ws,e',_,_⟩:=nw v hv
    exact⟨b,e',by rw [<-e'];exact hv⟩
  · have T4:=T3.more (S':=λb=>b=p0\/b=p1\/b=p2\/V.ref b∈vs2) (λb z => .inr (.inr (.inr z))) lst4 new4
    show Vu (Vx G.1.K (Yy ip)) (YU iq) (V8 (Ua G.1.K "list" rClear (Yy iq))) _ σ3 H3';refine ZaX (H0:=H0) (H:=HE) (a:=p) (vs:=[.ref p0,.ref p1,.ref p2]) (by rw [g3l,gl];exact l4) (λQ hQ=>⟨.ref p,by rw [g3 ip hpr];exact g1,hQ⟩) T4 hpS hHEp (λv hv => ?_) λσ4 H4' g4 g4l T5 => ?_
    · simp only [List.mem_cons,List.mem_nil_iff,or_false]at hv
      rcases hv with rfl|rfl|rfl
      · exact⟨_,rfl,.inl rfl⟩
      · exact⟨_,rfl,.inr (.inl rfl)⟩
      · exact⟨_,rfl,.inr (.inr (.inl rfl))⟩
    · exact⟨vw,by rw [g4 iw hwq,g3 iw hwr];exact g2,k vw H4' (T5.same sHE) (Rep.kind hf T5.kind rw_)⟩
end
end DL
namespace PySem
open Sem (wp)
open AutoSeq1 (wpAny_loadPart')
theorem Zad(l:Addr)(items:Array Value)(n:Nat)(dct:Option Addr)(sl:Array (Option Value)) :
 Meets (Builtin.«enumerate.__new__» ⟨[.type "enumerate",.ref l],[]⟩) (λ_ R s=>s.heap.get? l=some { cls := .type "tuple",dict:=dct,data := .seq items n,slots:=sl } /\
  R (.ok (.ret (.ref (s.heap.push { cls := .type "tuple_iterator",data := .fields #[.ref l,.int 0 0] }).objs.size)))
   { s with heap:=(s.heap.push { cls := .type "tuple_iterator",data := .fields #[.ref l,.int 0 0] }).push { cls := .type "enumerate",data := .fields #[.none,.bool false,.ref s.heap.objs.size,rawInt 0,.none,.none] } }):=
 .of_wp λprog w A R s h=>by
  obtain⟨hp,g,d,tk,os⟩:=s;obtain⟨hl,h⟩:=h;have hsub:=sub_enumerate;have hL:Heap.IsTuple (Shared.heap ⟨hp,g,d,tk,os⟩) l items:=⟨_,hl,rfl,n,rfl⟩
  wp_walk using wpAny_loadPart' hl
  refine wpAny_stack_any λst=>wpAny_pure ?_
  split
  · rename_i c _ _ _ _ _
    cases(c == Value.type "enumerate")
    · wp_walk using wpAny_loadPart' hl,wpAny_pyIter_tuple hL
      exact⟨_,rfl,h⟩
    · wp_walk using wpAny_loadPart' hl,wpAny_pyIter_tuple hL
      exact⟨_,rfl,h⟩
  · wp_walk using wpAny_loadPart' hl,wpAny_pyIter_tuple hL
    exact⟨_,rfl,h⟩
section
variable{prog:Program}{w:World}{A:Around}{E:Value->Shared->Prop}{s:Shared}
theorem Zak {l:Addr} {items:Array Value} {Q:Value->Shared->Prop} (hL:s.heap.IsTuple l items)
 (h:∀h',IsEnum h' (s.heap.objs.size+1) s.heap.objs.size 0 .none->h'.IsTupleIter s.heap.objs.size l 0->(∀b o,s.heap.get? b=some o->h'.get? b=some o)->Q (.ref (s.heap.objs.size+1)) { s with heap:=h' }) :
 wpAny (model prog w) A (call (.type "enumerate") [.ref l]) Q E s:=by
 obtain⟨⟨c,dct,dt,sl⟩,hl,hc,n,hd⟩:=hL;replace hc:c = .type "tuple" := hc;replace hd:dt = .seq items n:=hd;subst hc hd;refine callType_new F.called_enumerate (by decide) (F.typeCall_enumerate_1 _) (F.newCall_enumerate_1 _) (λobj=>F.args_object_init_2 obj _) F.entry_enumerate_new (Zad l items n dct sl) ⟨hl,?_⟩;have hz:(s.heap.push { cls := .type "tuple_iterator",data := .fields #[.ref l,.int 0 0] }).objs.size=s.heap.objs.size+1:=Heap.size_push ..
 show _/\_;rw [hz]
 have he:IsEnum ((s.heap.push { cls := .type "tuple_iterator",data := .fields #[.ref l,.int 0 0] }).push { cls := .type "enumerate",data := .fields #[.none,.bool false,.ref s.heap.objs.size,rawInt 0,.none,.none] }) (s.heap.objs.size+1) s.heap.objs.size 0 .none:=by
  have:=Heap.get?_push_size (s.heap.push { cls := .type "tuple_iterator",data := .fields #[.ref l,.int 0 0] }) (o:={ cls := .type "enumerate",data := .fields #[.none,.bool false,.ref s.heap.objs.size,rawInt 0,.none,.none] }) rfl;rw [hz]at this;exact this
 exact⟨⟨_,he,rfl⟩,h _ he ⟨_,Heap.get?_push_of_some _ (Heap.get?_push_size _ rfl),rfl,rfl⟩ λb o x=>Heap.get?_push_of_some _ (Heap.get?_push_of_some _ x)⟩
end
end PySem
namespace L2
open PySem PySem.Spec PyProof.Rows
def ZgU(K:PySem.W.Frag)(n0:Nat)(l:Addr):It:=
 ⟨λi H=>∃xs x,SqT K H l xs/\xs[i]? = some x,λi H v H'=>∃x p,(∀xs,SqT K H l xs->xs[i]? = some x)/\H p=none/\v = .ref p/\H'=upd H p (.tup [.int ((n0+i:Nat):Int),x]),λi H=>∃xs,SqT K H l xs/\xs.length<=i⟩
theorem Zfw{prog:Program}{w:World}{A:Around}(hh:A.handled=none)(it l:Addr)(hne:l≠it)(its:Array Value)(n0:Nat) :
 Draws prog w A it [it,l] (n0+its.size) (λi v=>∃j,i=n0+j/\its[j]? = some v) (λi h=>∃j,i=n0+j/\h.IsTupleIter it l j/\h.IsTuple l its) where
 live:=λi h ⟨j,_,st,_⟩=>let⟨o,ho,_⟩:=st;⟨o,ho⟩
 frame:=λi h h' ⟨j,e,s1,s2⟩ hk=>⟨j,e,s1.at λo q=>hk it (by simp) o q,s2.at λo q=>hk l (by simp) o q⟩
 item:=λi s Q E hi st hQ=>by
  obtain⟨j,rfl,s1,s2⟩:=st;have hj:j<its.size:=by omega
  refine Zcd s1 s2 (x:=its[j]) (by simp [hj]) λh' st' sb => ?_
  exact hQ _ h' s.toks ⟨j,rfl,by simp [hj]⟩ ⟨j+1,by omega,st',s2.extBut sb.extBut hne⟩ sb
 done:=λs Q E st hE=>by
  obtain⟨j,e,s1,s2⟩:=st;exact ZaL hh s1 s2 (by rw [show j=its.size by omega];simp) hE
theorem ZeK{prog:Program}{w:World}{A:Around}(hh:A.handled=none)(it l:Addr)(its:Array Value)(n j:Nat)(hj:its.size<=j) :
 Draws prog w A it [it,l] n (λ_ _=>False) (λi h=>i=n/\h.IsTupleIter it l j/\h.IsTuple l its) where
 live:=λi h ⟨_,st,_⟩=>let⟨o,ho,_⟩:=st;⟨o,ho⟩
 frame:=λi h h' ⟨e,s1,s2⟩ hk=>⟨e,s1.at λo q=>hk it (by simp) o q,s2.at λo q=>hk l (by simp) o q⟩
 item:=λi s Q E hi st hQ=>absurd st.1 (by omega)
 done:=λs Q E st hE=>ZaL hh st.2.1 st.2.2 (by simp [hj]) hE
theorem Zdh{P:Program}{w:World}{K:PySem.W.Frag}{elts:List Expr}{x1:Nat}{tpos:Pos}(e it l:Addr)(hne:e≠it)(n0:Nat) :
 Turn P w K (.Tuple elts x1 tpos) (ZgU K n0 l) [e,it] e (λi h=>(∃old,IsEnum h e it ((n0+i:Nat):Int) old)/\h.IsTupleIter it l i) where
 mem:=by simp
 obj:=λi h st b hb=>by
  obtain⟨⟨old,he⟩,o,ho,hc,hd⟩:=st;simp at hb;rcases hb with rfl|rfl
  · exact ⟨_, he, fun v z => by
     have z':Data.fields _=Data.cell v:=z;cases z'⟩
  · exact⟨o,ho,λv z=>by rw [hd]at z;cases z⟩
 keep:=λi h h' st k=>by
  obtain⟨⟨old,he⟩,s1⟩:=st;exact⟨⟨old,k e (by simp) _ he⟩,s1.at λo q=>k it (by simp) o q⟩
 item:=by
  intro X hP hw hK hc i pins s σ H E I hf st hg;subst hP hw hK;obtain⟨⟨old,he⟩,st⟩:=st;obtain⟨xs,x,hq,hx⟩:=hg;obtain⟨its,rv,p,hz⟩:=I.tuple hq;obtain⟨u,hu,ru⟩:=rv.get hx;have hi:i<its.length:=(List.getElem?_eq_some_iff.mp hu).1;obtain⟨e0,e1,e2,e3,e4,e5⟩:=hf e (by simp);obtain⟨f0,f1,f2,f3,f4,f5⟩:=hf it (by simp)
  have hLe:l≠e:=by
   rintro rfl
   obtain⟨o,ho,hcl,_⟩:=p;have he':s.heap.get? l=some _:=he;rw [he']at ho;cases ho;exact absurd (show Value.type "enumerate" = Value.type "tuple" from hcl) (by decide)
  have hLi:l≠it:=by
   rintro rfl
   obtain⟨o,ho,hcl,_⟩:=p;obtain⟨o',ho',hcl',_⟩:=id st;rw [ho]at ho';cases ho';rw [hcl]at hcl';exact absurd hcl' (by decide)
  have D:=Zfw (prog:=X.prog) (w:=X.w) (A:=X.A.in1) (I.ok.hd hc) it l hLi its.toArray n0;refine wpAny_pyNext_enum_itemD D he ⟨i,rfl,st,p⟩ (by simp;omega) hne (by simp [hne,Ne.symm hLe]) λy h' tk hP ho st' hT hsz hk => ?_
  obtain⟨j,ej,hy⟩:=hP;have ej':j=i:=by omega
  subst ej'
  have hyu:y=u:=by
   have:its[j]? = some y:=by simpa using hy
   rw [hu]at this;exact(Option.some.inj this).symm
  subst hyu;refine⟨_,rfl,wpAny_letOwnedTupleGo_enum ho λh2 he2 hs2 => ?_⟩;have hs2:Heap.SameBut e h' h2:=hs2;have hTl:e<s.heap.objs.size:=Heap.lt_size he;obtain⟨j',ej2,st'',_⟩:=st';have ej3:j'=j+1:=by omega
  subst ej3;have hT2:h2.get? s.heap.objs.size=some { cls := .type "tuple",data := .seq #[.int ((n0+j:Nat):Int) tk,y] }:=(hs2.2 _ (Nat.ne_of_gt hTl)).trans hT;have k2:∀b o,b≠e->b≠it->s.heap.get? b=some o->h2.get? b=some o:=λb o hb hb' q=>(hs2.2 b hb).trans (hk b o hb hb' q)
  have hTn:H s.heap.objs.size=none:=I.hok.fresh (Nat.le_refl _);have neT:∀b o,s.heap.get? b=some o->b≠s.heap.objs.size:=λb o q=>Nat.ne_of_lt (Heap.lt_size q)
  have I2:Inv X pins σ (upd H s.heap.objs.size (.tup [.int ((n0+j:Nat):Int),x])) { s with heap:=h2,toks:=tk+1 }:=by
   refine I.step (g':=s.gens) (d':=s.drawn) (ch:=[e,it]) (λb hb => ?_) (λb o _ _ hcb q _ => ?_) (λb o _ _ hcb q _ => ?_) (λb o hcb q n => ?_) (λb o hcb q => ?_) (λb xs q => ?_) (λb o v q => ?_) (λb ps q => ?_) (λm hm => ?_) (λb o q => ?_) I.bare
   · simp at hb
     rcases hb with rfl|rfl
     · exact⟨e3,e1,e4,e5⟩
     · exact⟨f3,f1,f4,f5⟩
   · simp at hcb
     exact k2 b o hcb.1 hcb.2 q
   · simp at hcb
     exact⟨o.slots,k2 b o hcb.1 hcb.2 q⟩
   · rw [ZI (neT b o q)]
     exact n
   · simp at hcb
     exact⟨o,k2 b o hcb.1 hcb.2 q⟩
   · rw [ZI (YZ q hTn)]
     exact q
   · rw [ZI (YZ q hTn)]
     exact q
   · exact⟨#[],by rw [ZI (YZ q hTn),q];simp⟩
   · obtain⟨o,es,ep,q,r⟩:=hm
     exact⟨o,es,ep,k2 _ o (Ne.symm e1) (Ne.symm f1) q,r⟩
   · by_cases hb:b=s.heap.objs.size
     · subst hb
       rw [ZN]at q;cases q;refine⟨by show 2<=sizeLine;decide,[.int ((n0+j:Nat):Int) tk,y],.cons ⟨_,rfl⟩ (.cons ru .nil),?_⟩;exact⟨_,hT2,rfl,⟨_,rfl⟩,rfl⟩
     · rw [ZI hb]at q
       have nn:∀(b:Addr)(o:HO),H b=some o->b≠e/\b≠it:=λb o q=>⟨λz=>(by rw [z,e0]at q;cases q),λz=>(by rw [z,f0]at q;cases q)⟩
       refine(I.hok b o q).stay (λd v hd q' => ?_) (λd q'=>by rw [ZI (YZ q' hTn)];exact q') λd xs q'=>by rw [ZI (YZ q' hTn)];exact q'
       rcases hd with rfl|hd
       · exact k2 d v (nn d o q).1 (nn d o q).2 q'
       · exact k2 d v (nn d _ hd).1 (nn d _ hd).2 q'
  have he3:IsEnum h2 e it ((n0+(j+1):Nat):Int) y:=by
   have:((n0+(j+1):Nat):Int)=((n0+j:Nat):Int)+1:=by push_cast;omega
   rw [this];exact he2
  refine⟨.ref s.heap.objs.size,_,I2,rfl,⟨x,s.heap.objs.size,λys hy=>by rw [I.tuple_inj hy hq];exact hx,hTn,rfl,rfl⟩,⟨⟨_,he3⟩,?_⟩,λb hb => ?_⟩
  · obtain⟨o,ho',r⟩:=st''
    exact⟨o,(hs2.2 it (Ne.symm hne)).trans ho',r⟩
  · simp at hb
    rcases hb with rfl|rfl
    · rw [ZI (Nat.ne_of_lt hTl)];exact e0
    · obtain⟨o,ho',_⟩:=st
      rw [ZI (neT _ o ho')];exact f0
 done:=by
  intro X hP hw hK hc i pins s σ H E I hf st hg;subst hP hw hK;obtain⟨⟨old,he⟩,st⟩:=st;obtain⟨xs,hq,hx⟩:=hg;obtain⟨its,rv,p,hz⟩:=I.tuple hq;have hl:=rv.length;obtain⟨f0,f1,f2,f3,f4,f5⟩:=hf it (by simp);have D:=ZeK (prog:=X.prog) (w:=X.w) (A:=X.A.in1) (I.ok.hd hc) it l its.toArray (n0+i) i (by simp;omega);exact wpAny_pyNext_enum_endD D he ⟨rfl,st,p⟩ λh' eb=>⟨rfl,I.turned (t':=s.toks) (λb o hb q=>eb b o hb q) f0 f1 f3 f4 f5⟩
 self:=λ_ _ _ _ _ st h=>by
  obtain⟨⟨old,he⟩,_⟩:=st;exact wpAny_pyIter_enum he h
section
variable{X:Cx}{elts:List Expr}{x1:Nat}{tpos:Pos}
def Zgo(K:PySem.W.Frag)(ta:TA):TI:=λσ H R=>ta σ H λvs H1=>∃l xs,vs=[.ref l]/\SqT K H1 l xs/\R (ZgU K 0 l) H1
theorem ZcB {K:PySem.W.Frag} {a:Expr} {ta:TE} {po pos:Pos} (hg:Gl X "enumerate") (hm:X.mg "enumerate" = none) (ha:PE X a ta) (hs:starEach [a] X.env=[(false,eval a X.env)]:=by rfl) (hK:X.K=K:=by rfl) :
 PI X (.Tuple elts x1 tpos) (.Call (.Name "enumerate" po) [a] [] pos) (Zgo K (XV ta tNil)):=by
 subst hK;intro pins s σ H R I h;refine Call_ (Va I hg hm boot_enumerate (PyProof.Rows.callWith_type1 (thn ((Zd ha Zj hs) pos pins s σ H _ I h) λus s1 ⟨vs,H1,I1,r1,q1⟩ => ?_) (by rw [hs];rfl) (by rfl)));obtain⟨l,xs,ev,hq,q⟩:=q1;subst ev;obtain⟨w1,rfl,rx⟩:=YV r1;cases rx;obtain⟨its,rv,pl,hz⟩:=I1.tuple hq;refine Zak pl λh' he st k => ?_
 refine wpAny_pyIter_enum he ?_;have I3:Inv X pins σ H1 { s1 with heap:=h' }:=I1.kept (t':=s1.toks) k;refine⟨s1.heap.objs.size+1,[s1.heap.objs.size+1,s1.heap.objs.size],_,_,H1,rfl,I3,Zdh (s1.heap.objs.size+1) s1.heap.objs.size l (Nat.succ_ne_self _) 0,⟨⟨_,he⟩,st⟩,λb hb => ?_,q⟩
 have hb':s1.heap.objs.size<=b:=by
  simp at hb;rcases hb with rfl|rfl
  · exact Nat.le_succ _
  · exact Nat.le_refl _
 exact I1.fpOk hb' (I1.hok.fresh hb')
def ZgV(K:PySem.W.Frag):List V->Hp->VK->Prop:=λxs H Q=>∃p kvs,xs=[.ref p]/\H p=some (.dK kvs)/\Q (.int kvs.length) H
theorem ZeL:Z6 X (.builtin "len") (ZgV X.K):=by
 intro pins s σ H xs us Q I rs h;obtain⟨p,kvs,rfl,hq,q⟩:=h;obtain⟨u,rfl,rx⟩:=YV rs;cases rx;exact Zj5 I (.inl hq) λt s' I'=>⟨.int kvs.length,H,I',⟨t,rfl⟩,q⟩
theorem Zji{K:PySem.W.Frag}(hK:X.K=K:=by rfl):Z6 X (.builtin "len") (ZgV K):=hK▸ZeL
end
end L2
namespace DL
open PySem PySem.Spec L2
section
variable{cA:Kn}{G:Cn}{ow:List Nat}
def lenKD:List D->Option D
 | [.dct ks _]=>some (.int ks.length)
 |_=>none
theorem ZhE:X1 cA (ZgV cA.K) lenKD:=λi H ds vs d _ h e Q k=>by
 unfold lenKD at e
 split at e
 · rename_i ks xs
   cases e;obtain⟨v,t,rfl,a,ws,rfl,_,r,z,l⟩:=il1 h
   have hl:(ks.zip ws).length=ks.length:=by
    rw [List.length_zip];have:=l.length;omega
   exact⟨a,ks.zip ws,rfl,r,by rw [hl];exact k _ H (Same.refl H) rfl⟩
 · cases e
def Uy(ε:Env->Option D)(δ:Env):Option (List D):=match ε δ with
 |some (.tup xs)=>some (XN 0 xs)
 |_=>none
theorem Zcf{iv:Addr->Prop}{H0:Hp}{a:Addr}{vs:List V}{xs:List D}{n0:Nat}(rd:SqT cA.K H0 a vs)(l:RepL cA iv H0 xs vs):VC cA iv (ZgU cA.K n0 a) (XN n0 xs) H0:=λH s=>by
 have rd':SqT cA.K H a vs:=Zfs (k:=true) s rd;refine⟨λi hi => ?_,λi x v H' hx y => ?_,λi hi=>⟨vs,rd',by rw [Zac]at hi;rw [<-l.length];exact hi⟩⟩
 · rw [Zac]at hi
   obtain⟨v,hv,_⟩:=l.get (List.getElem?_eq_getElem hi);exact⟨vs,v,rd',hv⟩
 · obtain⟨z,p,hy,hp,rfl,rfl⟩:=y
   rw [Zbr]at hx;cases hxi:xs[i]? with
   |none=>rw [hxi]at hx;cases hx
   |some d=>
    rw [hxi]at hx;cases hx;obtain⟨v',hv,r⟩:=l.get hxi;rw [hy vs rd']at hv;cases hv;refine⟨ZU hp,λav' h1 h2 => ?_⟩;unfold Rep;exact⟨p,_,rfl,λz=>h1 p z hp,ZN,.cons rfl (.cons (((r.av h2).same s).same (ZU hp)) .nil)⟩
theorem ZcC{ta:TE}{ε:Env->Option D}(h:VE G ow ta .cl ε):VI G ow (Zgo G.1.K (XV ta tNil)) (Uy ε):=λH0 av A σ H δ E xs e R k=>by
 unfold Uy at e;cases he:ε δ with
 |none=>rw [he]at e;cases e
 |some d=>
  rw [he]at e;cases d<;>first|(cases e;done)|skip
  cases e;refine h H0 av A σ H δ E _ he _ λv H1 s r => ?_
  obtain⟨a,vs,rfl,na,rd,l⟩:=r;exact⟨a,vs,rfl,SqT.of rd,k _ H1 s (Zcf (SqT.of (by rw [Vz λ⟨i,z⟩=>na (.inr ⟨i,z⟩)];exact rd)) l.cut)⟩
end
end DL
namespace DL
open PySem PySem.Spec L2
section
variable{cA:Kn}{G:Cn}{ow owB owC:List Nat}
def Xd:D->D->Option D
 | .lst a,.lst b=>addX (.lst a) (.lst b)
 |_,_=>none
theorem U7{ta tb:TE}{a b:Env->Option D}(ha:VE G ow ta .cl a)(hb:VE G ow tb .cl b):VF G ow (tOp (Qq G.1.K) ta tb) (eOp Xd a b):=λH0 av A σ H δ E d e Q k=>by
 obtain⟨x,y,ex,ey,ed⟩:=QR e;unfold Xd at ed
 split at ed
 · rename_i xs ys
   dsimp only [addX]at ed
   by_cases hz:xs.length+ys.length<=sizeLine
   · rw [if_pos hz]at ed
     cases ed;refine ha H0 av A σ H δ E _ ex _ λv H1 s1 r1=>hb H0 av A σ H1 δ (E.mono s1) _ ey _ λw H2 s2 r2 => ?_
     obtain⟨a1,vs1,rfl,na,rd,l1⟩:=r1;obtain⟨a2,vs2,rfl,nb,rd2,l2⟩:=r2;refine .inr (.inr ⟨a1,a2,vs1,vs2,rfl,rfl,s2.seq rd,rd2,by rw [<-l1.length,<-l2.length];exact hz,λp hp=>k p _ _ H2 (s1.trans s2) hp ((l1.same s2).append l2) rfl⟩)
   · rw [if_neg hz]at ed;cases ed
 · cases ed
end
end DL
namespace DL
open PySem PySem.Spec L2 PyProof.Rows
section
variable{X:Cx}{cA:Kn}
open Classical in
theorem Zjj{K:PySem.W.Frag}(hK:X.K=K:=by rfl):OpR X (binaryOp .Add) (J7 K):=hK▸Zhb
def catT:D->D->Option D
 | .tup (a::as),.tup (b::bs)=>if(a::as).length+(b::bs).length<=sizeLine then some (.tup ((a::as)++(b::bs)))else none
 |_,_=>none
theorem ZhF:Xk cA (J7 cA.K) catT:=λt t' i H x y vx vy d hi hx hy e Q k=>by
 unfold catT at e
 split at e
 · rename_i a as b bs
   by_cases hz:(a::as).length+(b::bs).length<=sizeLine
   · rw [if_pos hz]at e
     cases e;obtain⟨a1,vs1,rfl,_,r1,l1⟩:=hx;obtain⟨a2,vs2,rfl,_,r2,l2⟩:=hy
     have n1:vs1≠[]:=λz=>by
      have:=l1.length;rw [z]at this;cases this
     have n2:vs2≠[]:=λz=>by
      have:=l2.length;rw [z]at this;cases this
     exact⟨a1,a2,vs1,vs2,rfl,rfl,SqT.of r1,SqT.of r2,n1,by rw [<-l1.length,<-l2.length];exact hz,λz=>absurd z n2,λ_ p hp=>k _ _ (ZU hp) (by
      refine⟨p,vs1++vs2,rfl,λz=>(hi p z hp).elim,ZN,(l1.append l2).same (ZU hp)⟩)⟩
   · rw [if_neg hz]at e;cases e
 · cases e
end
section
variable{prog:Program}{w:World}{A:Around}{E:Value->Shared->Prop}{s:Shared}{l:Addr}{xs:Array (Int×Tok)}
theorem Zdi {Q:Value->Shared->Prop} (hh:A.handled=none) (hl:s.heap.IsTuple l (intItems xs))
 (h:∀h' tk t',(∀b o,s.heap.get? b=some o->h'.get? b=some o)->Q (.int (preSum (numAt xs) xs.size) t') { s with heap:=h',toks:=tk }) :
 wpAny (model prog w) A (call (.builtin "sum") [.ref l]) Q E s:=by
 refine call_sum_walkG (Zag hl λs₂ e st hfp hlI => ?_);subst e;refine⟨_,_,_,_,_,_,numAt xs,rfl,Walks.tuple (A:=A.in1) hh _ l hlI (intItems xs),st,hfp,(λ_ _=>intItems_at),λh' tk t' hk => ?_⟩;have:=h h' tk t' (Zay hk);simpa [intItems]using this
end
def ZgW(K:PySem.W.Frag):List V->Hp->VK->Prop:=λxs H Q=>∃(p:Addr) (ns:List Int),xs=[.ref p]/\SqT K H p (ns.map V.int)/\Q (.int ns.sum) H
section
variable{X:Cx}{K:PySem.W.Frag}{cA:Kn}
theorem ZeM(hc:X.calm=true):Z6 X (.builtin "sum") (ZgW X.K):=by
 intro pins s σ H xs us Q I rs h;obtain⟨p,ns,rfl,hq,q⟩:=h;obtain⟨u,rfl,rx⟩:=YV rs;cases rx;obtain⟨its,rv,hl,hz⟩:=I.tuple hq;have hi:=Uj ns its rv;obtain⟨ys,e⟩:=hi.allInts.items
 have hns:ns=ys.toList.map (·.1):=by
  rw [<-hi.numsOf,<-nums_intItems,<-e]
 rw [e]at hl;refine Zdi (I.ok.hd hc) hl λh' tk t' hk => ?_
 have e2:preSum (numAt ys) ys.size=ns.sum:=by
  rw [preSum_eq,List.take_of_length_le (by simp),hns]
 exact⟨.int ns.sum,H,I.kept hk,⟨t',by rw [e2]⟩,q⟩
theorem Zgp(hc:X.calm=true:=by rfl)(hK:X.K=K:=by rfl):Z6 X (.builtin "sum") (ZgW K):=hK▸ZeM hc
def sumTD:List D->Option D
 | [.tup xs]=>match YE xs with
  |some ns=>some (.int ns.sum)
  |none=>none
 |_=>none
theorem ZdZ:X1 cA (ZgW cA.K) sumTD:=λi H ds vs d _ h e Q k=>by
 unfold sumTD at e
 split at e
 · rename_i xs
   cases hb:YE xs with
   |none=>rw [hb]at e;cases e
   |some bs=>
    rw [hb]at e;cases e;obtain⟨v,t,rfl,a,ws,rfl,_,rd,l⟩:=il1 h;have ex:=Ui hb;subst ex;have ev:=l.vals (by rw [List.all_map];exact List.all_eq_true.mpr λ_ _=>rfl);rw [List.map_map]at ev;subst ev;exact⟨a,bs,rfl,SqT.of rd,k _ H (Same.refl H) rfl⟩
 · cases e
end
end DL
namespace L2
open PySem PySem.Spec PyProof.Rows Builtin Builtin.Str
section
variable{X:Cx}
end
end L2
namespace DL
open PySem PySem.Spec L2
variable{cA:Kn}
end DL
namespace DL
open PySem PySem.Spec L2
section
variable{cA:Kn}{G:Cn}{ow owN owB owC:List Nat}
inductive NewD(H0 H:Hp):List D->List V->Prop
 |nil:NewD H0 H [] []
 |cons {xs ds:List D} {vs ws:List V} {b:Addr} (h:H b=some (.lst ws)) (h0:H0 b=none) (hl:ws.length=ds.length) (r:NewD H0 H xs vs):NewD H0 H (.lst ds::xs) (.ref b::vs)
theorem NewD.same{H0 H H':Hp}(s:Same H H'):∀{xs:List D}{vs:List V},NewD H0 H xs vs->NewD H0 H' xs vs
 |_,_,.nil => .nil
 |_,_,.cons h h0 hl r => .cons (s _ _ h) h0 hl (NewD.same s r)
structure Hd(H HE H':Hp)(p0 p1 b0:Addr)(r1:List V):Prop where
 same:Same H H'
 kind:∀b o,HE b=some o->(∀vs,o ≠ .lst vs)->H' b=some o
 l0:∃v ws,H' p0=some (.lst (v::ws))
 l1:∃v ws,H' b0=some (.lst (v::ws))
 lp:H' p1=some (.lst (.ref b0::r1))
end
end DL
namespace L2
open PySem PySem.Spec PyProof.Rows
section
variable{prog:Program}{w:World}{A:Around}{E:Value->Shared->Prop}{s:Shared}{d it:Addr}{es:Array DictEntry}{ep i:Nat}{o:Obj}
end
section
variable{X:Cx}{tg:Expr}
end
end L2
namespace DL
open PySem PySem.Spec L2
section
variable{G:Cn}{ow ow1 owB owC:List Nat}{i:Nat}{H0 H H':Hp}{av:Addr->Prop}{A A':Nat->Option Addr}{σ σ':L2.St}{δ δ':Env}{a:Addr}
end
end DL
namespace DL
open PySem PySem.Spec L2
section
variable{G:Cn}{ow owB owC ow1:List Nat}
end
end DL
namespace STb
open PySem PySem.SetTable
def lcg(m i:Nat):Nat:=(i*5+1) % (m+1)
def orb(m:Nat):Nat->Nat->Nat
 |0,i=>i
 |k+1,i=>orb m k (lcg m i)
def ol(m:Nat):Nat->Nat->List Nat
 |0,_=>[]
 |k+1,i=>i::ol m k (lcg m i)
def okm(m:Nat):Bool:=(orb m (m+1) 0 == 0)&&(List.range (m+1)).all λj=>(ol m (m+1) 0).contains j
def lp(m:Nat):Nat->Nat×Nat->Nat×Nat
 |0,x=>x
 |k+1,x=>lp m k (leap m x.1 x.2)
theorem ZlM:okm 7=true:=by decide +kernel
theorem ZiC:okm 31=true:=by decide +kernel
theorem Zgq:okm 127=true:=by decide +kernel
theorem Ja(m a:Nat):∀b i,orb m (b+a) i=orb m a (orb m b i)
 |0,i=>by rw [Nat.zero_add];rfl
 |b+1,i=>by rw [Nat.add_right_comm];exact Ja m a b _
theorem Zgr(m:Nat):∀n i j,j∈ol m n i->∃k,k<n/\orb m k i=j
 |0,i,j,h=>by cases h
 |n+1,i,j,h=>by
  rcases List.mem_cons.mp h with h|h
  · exact⟨0,Nat.succ_pos _,h.symm⟩
  · obtain⟨k,h1,h2⟩:=Zgr m n _ j h
    exact⟨k+1,Nat.succ_lt_succ h1,h2⟩
theorem ZlN{m:Nat}(h:okm m=true){i j:Nat}(hi:i<=m)(hj:j<=m):∃k,k<=m/\orb m k i=j:=by
 unfold okm at h;rw [Bool.and_eq_true,beq_iff_eq,List.all_eq_true]at h;have on:∀j,j<=m->∃k,k<m+1/\orb m k 0=j:=λj hj=>Zgr m _ _ _ (by simpa using h.2 j (List.mem_range.mpr (by omega)))
 obtain⟨a,ha,rfl⟩:=on i hi;obtain⟨b,hb,rfl⟩:=on j hj
 by_cases q:a<=b
 · exact⟨b-a,by omega,by rw [<-Ja];congr 1;omega⟩
 · refine⟨b+(m+1)-a,by omega,?_⟩
   rw [<-Ja,show a+(b+(m+1)-a)=(m+1)+b by omega,Ja,h.1]
theorem Zgs(m a:Nat):∀b x,lp m (b+a) x=lp m a (lp m b x)
 |0,x=>by rw [Nat.zero_add];rfl
 |b+1,x=>by rw [Nat.add_right_comm];exact Zgs m a b _
theorem Zgt(m:Nat):∀k x,(lp m k x).2=x.2 / 32 ^ k
 |0,x=>by simp [lp]
 |k+1,x=>by
  show(lp m k (leap m x.1 x.2)).2=_;rw [Zgt m k];show x.2 / 32 / 32 ^ k=_;rw [Nat.div_div_eq_div_mul,Nat.pow_succ,Nat.mul_comm]
theorem ZiD(m:Nat):∀k x,x.1<=m->(lp m k x).1<=m
 |0,x,h=>h
 |k+1,x,h=>ZiD m k _ (Nat.le_of_lt_succ (Nat.mod_lt _ (Nat.succ_pos m)))
theorem Zd0(m:Nat):∀k i,(lp m k (i,0)).1=orb m k i
 |0,i=>rfl
 |k+1,i=>by
  show(lp m k (leap m i 0)).1=orb m k (lcg m i);rw [<-Zd0 m k];rfl
theorem cov{m:Nat}(h:okm m=true){i p j:Nat}(hp:p<2 ^ 64)(hi:i<=m)(hj:j<=m):∃k,k<=m+13/\(lp m k (i,p)).1=j:=by
 have h1:=Zgt m 13 (i,p);have h2:(i,p).2 / 32 ^ 13=0:=Nat.div_eq_of_lt (Nat.lt_trans hp (by decide));rw [h2]at h1;obtain⟨k,hk,e⟩:=ZlN h (ZiD m 13 (i,p) hi) hj;refine⟨13+k,by omega,?_⟩;rw [Zgs,show lp m 13 (i,p)=((lp m 13 (i,p)).1,0)from Prod.ext rfl h1,Zd0];exact e
theorem Zlo:∀(m:Nat)(l:List Nat),(∀j,j<m->j∈l)->m<=l.length
 |0,_,_=>Nat.zero_le _
 |m+1,l,h=>by
  have hm:=h m (Nat.lt_succ_self m);have:=Zlo m (l.erase m) λj hj=>(List.mem_erase_of_ne (Nat.ne_of_lt hj)).mpr (h j (Nat.lt_succ_of_lt hj))
  have e:=List.length_erase_of_mem hm;have:=List.length_pos_of_mem hm;omega
theorem gap{m:Nat}{l:List Nat}(h:l.length<=m):∃j,j<=m/\j∉l:=by
 refine Classical.byContradiction λq => ?_
 have:=Zlo (m+1) l λj hj=>Classical.byContradiction λz=>q ⟨j,Nat.le_of_lt_succ hj,z⟩
 omega
theorem Zd1(h:Int):bits h<2 ^ 64:=by
 unfold bits;have h1:=Int.emod_lt_of_pos h (show(0:Int)<2 ^ 64 by decide);have h2:=Int.emod_nonneg h (show(2 ^ 64:Int)≠0 by decide);omega
theorem ZeN{t:SetTable}{j i:Nat}(h:t.slot j = .live i):t.place[i]? = some j:=by
 unfold slot at h;dsimp only at h
 split at h
 · rename_i q
   cases h;exact eq_of_beq q
 · split at h<;>cases h
theorem ZeO{t:SetTable}(hd:t.dummies = #[]){j:Nat}(h:j∉t.place.toList):t.slot j = .empty:=by
 unfold slot;dsimp only;rw [if_neg,if_neg]
 · rw [hd]
   intro q;unfold has at q;simp at q
 · intro q
   have q':=eq_of_beq q;exact h (by rw [<-Array.getElem?_toList]at q';exact List.mem_of_getElem? q')
theorem ZbM{t:SetTable}(hd:t.dummies = #[])(j:Nat):t.slot j ≠ .dummy:=by
 unfold slot;dsimp only
 split
 · exact λz=>by cases z
 · rw [if_neg]
   · exact λz=>by cases z
   · rw [hd];intro q;unfold has at q;simp at q
def it(t:SetTable):Nat->Probe->Probe
 |0,p=>p
 |k+1,p=>it t k (t.advance p)
theorem Zdu(t:SetTable)(a:Nat):∀b p,it t (b+a) p=it t a (it t b p)
 |0,p=>by rw [Nat.zero_add];rfl
 |b+1,p=>by rw [Nat.add_right_comm];exact Zdu t a b _
def rs(t:SetTable)(x:Nat×Nat):Probe:={ j:=x.1,more:=runEnd t.mask x.1-x.1,i:=x.1,perturb:=x.2,dummy:=none }
theorem Zgu(t:SetTable):∀(n:Nat)(p:Probe),p.more=n->p.dummy=none->it t (n+1) p=rs t (leap t.mask p.i p.perturb)
 |0,p,h,hd=>by
  obtain⟨j,more,i,pt,d⟩:=p;cases h;cases hd;rw [Nat.zero_add,it,it];unfold advance;rw [if_neg (Nat.lt_irrefl 0)];rfl
 |n+1,p,h,hd=>by
  obtain⟨j,more,i,pt,d⟩:=p;cases h;cases hd;rw [it];unfold advance;rw [if_pos (Nat.succ_pos n)];exact Zgu t n _ rfl rfl
theorem ZiE(t:SetTable):∀k x,∃n,n<=10*k/\it t n (rs t x)=rs t (lp t.mask k x)
 |0,x=>⟨0,Nat.le_refl _,rfl⟩
 |k+1,x=>by
  obtain⟨n,h1,h2⟩:=ZiE t k (leap t.mask x.1 x.2);refine⟨(runEnd t.mask x.1-x.1+1)+n,?_,?_⟩
  · have:runEnd t.mask x.1-x.1<=9:=by unfold runEnd;split<;>omega
    omega
  · rw [Zdu,Zgu t (runEnd t.mask x.1-x.1) (rs t x) rfl rfl]
    exact h2
theorem Zfx(t:SetTable)(h:Int):t.probeStart h=rs t (bits h % (t.mask+1),bits h):=rfl
theorem Zfy{t:SetTable}(hk:okm t.mask=true)(hd:t.dummies = #[])(hs:t.place.size<=t.mask)(h:Int):∃N,N<10*turns t.mask/\t.slot (it t N (t.probeStart h)).j = .empty:=by
 obtain⟨j,hj,hn⟩:=gap (m:=t.mask) (l:=t.place.toList) (by simpa using hs);obtain⟨k,hk1,hk2⟩:=cov hk (Zd1 h) (Nat.le_of_lt_succ (Nat.mod_lt (bits h) (Nat.succ_pos t.mask))) hj;obtain⟨n,h1,h2⟩:=ZiE t k (bits h % (t.mask+1),bits h);refine⟨n,by unfold turns;omega,?_⟩;rw [Zfx,h2];exact ZeO hd (by show(lp t.mask k (bits h % (t.mask+1),bits h)).1∉_;rw [hk2];exact hn)
theorem Zbv(t:SetTable)(p:Probe):(t.advance p).dummy=p.dummy:=by
 unfold advance
 split<;>rfl
theorem Zd2{t:SetTable}(hd:t.dummies = #[])(ha:Nat->Int)(h:Int):∀(fuel N:Nat)(p:Probe),p.dummy=none->N<fuel->t.slot (it t N p).j = .empty ->
 (∃j,probe.go t ha h fuel p=some (.empty j none))\/∃m j i,m<N/\probe.go t ha h fuel p=some (.candidate j i (it t (m+1) p))/\t.slot j = .live i
 |0,N,p,_,hN,_=>absurd hN (Nat.not_lt_zero _)
 |fuel+1,N,p,hp,hN,he=>by
  unfold probe.go;cases hs:t.slot p.j with
  |empty=>exact .inl ⟨p.j,by rw [<-hp]⟩
  |dummy=>exact absurd hs (ZbM hd _)
  |live i=>
   cases N with
   |zero=>rw [show it t 0 p=p from rfl,hs]at he;cases he
   |succ N=>
    dsimp only
    by_cases q:(ha i == h)=true
    · rw [if_pos q]
      exact .inr ⟨0,p.j,i,Nat.succ_pos _,rfl,hs⟩
    · rw [if_neg q]
      rcases Zd2 hd ha h fuel N (t.advance p) (by rw [Zbv,hp]) (by omega) he with z|⟨m,j,i',h1,h2,h3⟩
      · exact .inl z
      · exact .inr ⟨m+1,j,i',by omega,h2,h3⟩
theorem ZcD(t:SetTable):∀n p,(it t n p).dummy=p.dummy
 |0,p=>rfl
 |n+1,p=>by rw [it,ZcD t n,Zbv]
end STb
namespace STb
open PySem PySem.SetTable
theorem Zbw(m:Nat)(ow:Array (Option Nat)):∀(fuel i p:Nat),(∃k,k<fuel/\ow.getD (lp m k (i,p)).1 (some 0)=none)->∃j,layClean.free m ow fuel i p=some j/\ow.getD j (some 0)=none
 |0,i,p,h=>by obtain⟨k,hk,_⟩:=h;exact absurd hk (Nat.not_lt_zero _)
 |fuel+1,i,p,h=>by
  unfold layClean.free;cases hf:(List.range (runEnd m i+1-i)).find? λk=>(ow.getD (i+k) (some 0)).isNone with
  |some k=>exact⟨i+k,rfl,by simpa using List.find?_some hf⟩
  |none=>
   dsimp only;obtain⟨k,hk,e⟩:=h;cases k with
   |zero=>
    rw [List.find?_eq_none]at hf;have h1:i<=runEnd m i:=by unfold runEnd;split<;>omega
    have:=hf 0 (List.mem_range.mpr (by omega));rw [Nat.add_zero,show ow.getD i (some 0)=none from e]at this;simp at this
   |succ k=>exact Zbw m ow fuel _ _ ⟨k,by omega,e⟩
def fl(m:Nat)(ow:Array (Option Nat)):List (Nat×Nat):=(List.range (m+1)).filterMap λj=>(ow.getD j none).map (j,·)
theorem ZbW{α:Type}{f g:Nat->Option α}:∀n,(∀i,i<n->g i=f i)->(List.range n).filterMap g=(List.range n).filterMap f
 |0,_=>rfl
 |n+1,h=>by
  rw [List.range_succ,List.filterMap_append,List.filterMap_append,ZbW n λi hi=>h i (Nat.lt_succ_of_lt hi)];simp only [List.filterMap_cons,List.filterMap_nil,h n (Nat.lt_succ_self n)]
theorem Zd3{α:Type}{f g:Nat->Option α}{j:Nat}(hf:f j=none)(hg:(g j).isSome=true)(hs:∀i,i≠j->g i=f i):∀n,j<n->((List.range n).filterMap g).length=((List.range n).filterMap f).length+1
 |0,h=>absurd h (Nat.not_lt_zero _)
 |n+1,h=>by
  rw [List.range_succ,List.filterMap_append,List.filterMap_append,List.length_append,List.length_append]
  by_cases q:j=n
  · subst q
    rw [ZbW j λi hi=>hs i (Nat.ne_of_lt hi)];obtain⟨v,hv⟩:=Option.isSome_iff_exists.mp hg;simp [hf,hv]
  · rw [Zd3 hf hg hs n (by omega)]
    simp only [List.filterMap_cons,List.filterMap_nil,hs n (λz=>q z.symm)];omega
theorem Zgv{α:Type}{f:Nat->Option α}:∀n,(∀i,i<n->(f i).isSome=true)->((List.range n).filterMap f).length=n
 |0,_=>rfl
 |n+1,h=>by
  rw [List.range_succ,List.filterMap_append,List.length_append,Zgv n λi hi=>h i (Nat.lt_succ_of_lt hi)];obtain⟨v,hv⟩:=Option.isSome_iff_exists.mp (h n (Nat.lt_succ_self n));simp [hv]
theorem ZhG{α:Type}{f:Nat->Option α}{n:Nat}(h:((List.range n).filterMap f).length<n):∃i,i<n/\f i=none:=by
 refine Classical.byContradiction λq => ?_
 have:=Zgv (f:=f) n λi hi=>by
  cases e:f i with
  |none=>exact absurd ⟨i,hi,e⟩ q
  |some v=>rfl
 omega
theorem ZhH{ow:Array (Option Nat)}{j:Nat}(h:ow.getD j (some 0)=none):j<ow.size/\ow.getD j none=none:=by
 by_cases q:j<ow.size
 · refine⟨q,?_⟩
   simp only [Array.getD,q,dif_pos]at h ⊢;exact h
 · simp only [Array.getD,q,dif_neg,not_false_eq_true]at h
   cases h
theorem ZhI{ow:Array (Option Nat)}{j:Nat}(q:j<ow.size)(h:ow.getD j none=none):ow.getD j (some 0)=none:=by
 simp only [Array.getD,q,dif_pos]at h ⊢;exact h
def stp(m:Nat)(acc:Option (Array (Option Nat)×Nat))(h:Int):Option (Array (Option Nat)×Nat):=do
 let(owner,k) <-acc
 let j <-layClean.free m owner (turns m) (bits h % (m+1)) (bits h)
 pure (owner.setIfInBounds j (some k),k+1)
theorem ZcE{m:Nat}(hok:okm m=true):∀(hs:List Int)(ow:Array (Option Nat))(k:Nat),ow.size=m+1->(fl m ow).length=k->(∀j v,ow.getD j none=some v->v<k)->k+hs.length<=m ->
 ∃ow',hs.foldl (stp m) (some (ow,k))=some (ow',k+hs.length)/\(fl m ow').length=k+hs.length/\(∀j v,ow'.getD j none=some v->v<k+hs.length)
 | [],ow,k,hz,hc,hv,hl=>⟨ow,rfl,hc,hv⟩
 |h::hs,ow,k,hz,hc,hv,hl=>by
  have hl':k+(hs.length+1)<=m:=hl;obtain⟨j0,hj0,e0⟩:=ZhG (n:=m+1) (f:=λj=>(ow.getD j none).map (j,·)) (by show(fl m ow).length<m+1;omega);have e1:ow.getD j0 none=none:=by simpa using e0
  obtain⟨n,hn,e2⟩:=cov hok (Zd1 h) (Nat.le_of_lt_succ (Nat.mod_lt (bits h) (Nat.succ_pos m))) (Nat.le_of_lt_succ hj0);obtain⟨j,e3,e4⟩:=Zbw m ow (turns m) (bits h % (m+1)) (bits h) ⟨n,by unfold turns;omega,by rw [e2];exact ZhI (by omega) e1⟩;obtain⟨g1,g2⟩:=ZhH e4
  have at_:∀i,(ow.setIfInBounds j (some k)).getD i none=if i=j then some k else ow.getD i none:=λi=>by
   by_cases q:i=j
   · subst q
     simp [Array.getD,g1]
   · rw [if_neg q]
     simp only [Array.getD_eq_getD_getElem?];rw [Array.getElem?_setIfInBounds_ne (λz=>q z.symm)]
  obtain⟨ow',f1,f2,f3⟩:=ZcE hok hs (ow.setIfInBounds j (some k)) (k+1) (by simpa using hz) (by
   show((List.range (m+1)).filterMap _).length=_;rw [Zd3 (f:=λj=>(ow.getD j none).map (j,·)) (j:=j) (by simp [g2]) (by rw [at_];simp) (λi hi=>by rw [at_,if_neg hi]) (m+1) (by omega)];show(fl m ow).length+1=_;omega) (λi v e=>by
   rw [at_]at e
   by_cases q:i=j
   · rw [if_pos q]at e;cases e;omega
   · rw [if_neg q]at e;have:=hv i v e;omega) (by omega)
  refine⟨ow',?_,by rw [f2];simp;omega,λi v e=>by have:=f3 i v e;simp;omega⟩;rw [List.foldl_cons]
  have:stp m (some (ow,k)) h=some (ow.setIfInBounds j (some k),k+1):=by
   show(do let j <-layClean.free m ow (turns m) (bits h % (m+1)) (bits h);pure (ow.setIfInBounds j (some k),k+1):Option _)=_;rw [e3];rfl
  rw [this,f1]
  congr 2
  simp;omega
theorem ZhJ{m:Nat}(hok:okm m=true)(fi mv:Nat)(ld pl:Bool)(hs:Array Int)(hl:hs.size<=m) :
 ∃t' od,laid m fi mv ld pl hs=some (t',od)/\t'.mask=m/\t'.dummies = #[]/\t'.place.size=hs.size/\od.size=hs.size/\∀i∈od.toList,i<hs.size:=by
 have r0:∀j,(Array.replicate (m+1) (none:Option Nat)).getD j none=none:=λj=>by
  simp only [Array.getD];split<;>simp
 obtain⟨ow,h1,h2,h3⟩:=ZcE hok hs.toList (Array.replicate (m+1) none) 0 (by simp) (by
  show((List.range (m+1)).filterMap _).length=0;rw [ZbW (f:=λ_=>(none:Option (Nat×Nat))) (m+1) λi _=>by rw [r0];rfl];simp) (λj v e=>by rw [r0]at e;cases e) (by simpa using hl)
 have hc:layClean m hs=some ow:=by
  unfold layClean;rw [<-Array.foldl_toList];show((hs.toList.foldl (stp m) (some (Array.replicate (m+1) none,0))).map (·.1))=_;rw [h1];rfl
 refine⟨_,_,by unfold laid;rw [hc];rfl,rfl,rfl,?_,?_,λi hi => ?_⟩
 · have:=h2
   simp [fl]at this ⊢;exact this
 · have:=h2
   simp [fl]at this ⊢;exact this
 · simp only [List.mem_map,List.mem_filterMap,List.mem_range]at hi
   obtain⟨⟨a,b⟩,⟨j,hj,e⟩,rfl⟩:=hi;obtain⟨v,e1,e2⟩:=Option.map_eq_some_iff.mp e;cases e2;have:=h3 _ _ e1;simpa using this
end STb
namespace STb
open PySem PySem.SetTable
def tOk(t:SetTable)(n:Nat):Prop:=t.dummies = #[]/\t.place.size=n/\((t.mask=7/\n<=4)\/(t.mask=31/\n<=18)\/(t.mask=127/\n<=76))
def tOk'(t:SetTable)(n:Nat):Prop:=t.dummies = #[]/\t.place.size=n/\(t.mask=7\/t.mask=31\/t.mask=127)/\n<=t.mask
theorem tOk.weak{t:SetTable}{n:Nat}(h:tOk t n):tOk' t n:=by
 obtain⟨h1,h2,h3⟩:=h;exact⟨h1,h2,by omega,by omega⟩
theorem tOk'.okm{t:SetTable}{n:Nat}(h:tOk' t n):okm t.mask=true:=by
 rcases h.2.2.1 with h3|h3|h3
 · rw [h3];exact ZlM
 · rw [h3];exact ZiC
 · rw [h3];exact Zgq
theorem tOk'.way{t:SetTable}{n:Nat}(h:tOk' t n):t.gaveWay=false:=by
 unfold SetTable.gaveWay;rcases h.2.2.1 with h3|h3|h3<;>rw [h3]<;>rfl
theorem tOk'.fits{t:SetTable}{n:Nat}(h:tOk' t n):t.fits n=true:=by
 obtain⟨h1,h2,_,h3⟩:=h;have:t.fill=n:=by unfold fill;rw [h1,h2];rfl
 simp [SetTable.fits,h2,this,h3]
section
variable{prog:Program}{w:World}{K:Type} [DecidableEq K]{knd:KeyKind prog w K}{A:Around}{E:Value->Shared->Prop}{s:Shared}
theorem ZcF{ks:List K}{a:Addr}{Q:Bool->Shared->Prop}(hk:IsTupleKey knd s.heap ks a)(h:Q false s):wpAny (model prog w) A (ofAClassStatement 8 (.ref a)) Q E s:=by
 have hT:=hk.typeIs;obtain⟨o,items,n,ho,_,hd,hi⟩:=hk;unfold ofAClassStatement;refine wpAny_bind (wpAny_typeOf hT ?_);dsimp only;rw [if_pos (by decide)];refine wpAny_bind (wpAny_pure ?_);rw [if_neg (by decide)];refine wpAny_bind (wpAny_seqItems ho hd ?_);refine wpAny_bind ?_;show wpAny _ _ (forIn items _ _) _ _ s;rw [<-Array.forIn_toList];refine wpAny_forIn_list _ (λrest r s'=>r.1=none/\s'=s/\∀v∈rest,carriedByValue v=true) _ ?_ ?_ _ _ ⟨rfl,rfl,hi.byValue⟩
 · rintro v rest r s' ⟨hr,rfl,hall⟩
   have hv:=hall v List.mem_cons_self
   have e:ofAClassStatement 7 v=pure false:=by
    cases v with
    |ref a=>simp [carriedByValue]at hv
    |_=>unfold ofAClassStatement;rfl
   rw [e];refine wpAny_bind (wpAny_pure ?_);simp only [Bool.false_eq_true,if_false];exact wpAny_pure ⟨rfl,rfl,λu hu'=>hall u (List.mem_cons_of_mem _ hu')⟩
 · rintro⟨r1,r2⟩ s' ⟨hr,rfl,_⟩
   simp only at hr;subst hr;exact wpAny_pure h
theorem Zjk{ks:List K}{a:Addr}{Q:Bool->Shared->Prop}(hk:IsTupleKey knd s.heap ks a)(h:∀b,Q b s):wpAny (model prog w) A (hashByValue 8 (.ref a)) Q E s:=by
 have hT:=hk.typeIs;obtain⟨o,items,n,ho,_,hd,hi⟩:=hk;unfold hashByValue;refine wpAny_bind (wpAny_specialOf hT F.slot_tuple_hash.lookup ?_);dsimp only;refine wpAny_bind (wpAny_seqItems ho hd ?_);refine wpAny_bind ?_;show wpAny _ _ (forIn items _ _) _ _ s;rw [<-Array.forIn_toList];refine wpAny_forIn_list _ (λrest r s'=>r.1=none/\s'=s/\∀v∈rest,carriedByValue v=true) _ ?_ ?_ _ _ ⟨rfl,rfl,hi.byValue⟩
 · rintro v rest r s' ⟨hr,rfl,hall⟩
   have hv:=hall v List.mem_cons_self
   obtain⟨b,e⟩:∃b,hashByValue 7 v=pure b:=by
    cases v with
    |ref a=>simp [carriedByValue]at hv
    |_=>exact⟨_,by unfold hashByValue;rfl⟩
   rw [e];refine wpAny_bind (wpAny_pure ?_);cases b
   · simp only [Bool.not_false,if_true]
     exact wpAny_pure (wpAny_pure (h _))
   · simp only [Bool.not_true,Bool.false_eq_true,if_false]
     exact wpAny_pure ⟨rfl,rfl,λu hu'=>hall u (List.mem_cons_of_mem _ hu')⟩
 · rintro⟨r1,r2⟩ s' ⟨hr,rfl,_⟩
   simp only at hr;subst hr;exact wpAny_pure (h _)
theorem Zjl{kx:List K}{ax:Addr}{l:List Value}{Q:Bool->Shared->Prop}(hx:IsTupleKey knd s.heap kx ax)(hl:∀v∈l,∃a ks,v = .ref a/\IsTupleKey knd s.heap ks a)(h:Q false s):wpAny (model prog w) A (searchCouldBeSeen (.ref ax) l) Q E s:=by
 unfold searchCouldBeSeen;refine wpAny_bind ?_;refine wpAny_forIn_list _ (λrest r s'=>r.1=none/\s'=s/\∀v∈rest,∃a ks,v = .ref a/\IsTupleKey knd s.heap ks a) _ ?_ ?_ _ _ ⟨rfl,rfl,hl⟩
 · rintro v rest r s' ⟨hr,rfl,hall⟩
   obtain⟨a,ks,rfl,hk⟩:=hall v List.mem_cons_self;dsimp only
   split
   · exact wpAny_pure ⟨rfl,rfl,λu hu=>hall u (List.mem_cons_of_mem _ hu)⟩
   · refine wpAny_bind (wpAny_eqIsQuiet_tuple hx ?_)
     simp only [Bool.not_true,Bool.false_eq_true,if_false];refine wpAny_bind (wpAny_eqIsQuiet_tuple hk ?_);simp only [Bool.not_true,Bool.false_eq_true,if_false];refine wpAny_bind (ZcF hx ?_);simp only [Bool.false_eq_true,if_false];refine wpAny_bind (ZcF hk ?_);simp only [Bool.false_eq_true,if_false];exact wpAny_pure ⟨rfl,rfl,λu hu=>hall u (List.mem_cons_of_mem _ hu)⟩
 · rintro⟨r1,r2⟩ s' ⟨hr,rfl,_⟩
   simp only at hr;subst hr;exact wpAny_pure h
theorem ZaN {S:Addr} {o:Obj} {es:Array (Int×Value)} {ep:Nat} {t:SetTable} {kx:List K} {ax:Addr} {h:Int} {Q:SetFound->Shared->Prop}
 (hu:A.units<cLine) (ho:s.heap.get? S=some o) (hd:o.data = .set es ep t) (hok:tOk' t es.size) (hx:IsTupleKey knd s.heap kx ax)
 (hne:∀e∈es.toList,∃a ks,e.2 = .ref a/\IsTupleKey knd s.heap ks a/\ks≠kx) (hq:∀j,Q (.free j false) s) :
 ∀(fuel N:Nat)(st:Option Probe),N<fuel->N<10*turns t.mask->(st.getD (t.probeStart h)).dummy=none->t.slot (it t N (st.getD (t.probeStart h))).j = .empty ->
  wpAny (model prog w) A (setSearchFrom S (.ref ax) h true fuel st) Q E s
 |0,N,st,hN,_,_,_=>absurd hN (Nat.not_lt_zero _)
 |fuel+1,N,st,hN,hN2,hdm,he=>by
  unfold setSearchFrom;refine wpAny_bind (wpAny_setState_of ho hd hok.fits ?_);dsimp only;rw [hok.way];simp only [Bool.false_eq_true,if_false];have hP:t.probe (λi=>(es[i]?.map (·.1)).getD 0) h (st.getD (t.probeStart h))=probe.go t (λi=>(es[i]?.map (·.1)).getD 0) h (10*turns t.mask) (st.getD (t.probeStart h)):=rfl;rcases Zd2 hok.1 (λi=>(es[i]?.map (·.1)).getD 0) h (10*turns t.mask) N (st.getD (t.probeStart h)) hdm hN2 he with⟨j,e⟩|⟨m,j,i,h1,h2,h3⟩
  · show wpAny _ _ (match t.probe (λi=>(es[i]?.map (·.1)).getD 0) h (st.getD (t.probeStart h))with|some met=>_|_=>_) _ _ _
    rw [hP,e];exact wpAny_pure (hq j)
  · show wpAny _ _ (match t.probe (λi=>(es[i]?.map (·.1)).getD 0) h (st.getD (t.probeStart h))with|some met=>_|_=>_) _ _ _
    rw [hP,h2];dsimp only;have hpl:=ZeN h3
    have hi:i<es.size:=by
     have:=(Array.getElem?_eq_some_iff.mp hpl).1;rw [hok.2.1]at this;exact this
    obtain⟨a,ks,e1,hk,hnk⟩:=hne (es[i]) (by simp);have hes:es[i]? = some (es[i].1,.ref a):=by rw [Array.getElem?_eq_getElem hi,<-e1]
    have cont:wpAny (model prog w) A (do
     let equal <-holding [Value.ref a] (eqBool (Value.ref a) (.ref ax))
     let(es',_,t') <-setState S
     if true&&equal then return .there none
     let some same:=t'.sameMemory t.moves t.mask|unsupported "set.changed-during-lookup:is-the-new-block-at-the-old-address"
     let still <-match(if same then t'.slot j else .empty)with
      | .live i'=>match es'[i']? with
       |some (_,y')=>do pure (if <-isSame y' (Value.ref a)then some i' else none)
       |none=>pure none
      |_=>pure none
     match still with
     |none=>rule "set.search.anew";setSearchFrom S (.ref ax) h true fuel none
     |some i'=>if equal then return .there (some i')else setSearchFrom S (.ref ax) h true fuel (some (it t (m+1) (st.getD (t.probeStart h))))) Q E s:=by
     refine wpAny_bind (wpAny_holding (wpAny_eqBool_tuple hu hk hx ?_));rw [decide_eq_false hnk];refine wpAny_bind (wpAny_setState_of ho hd hok.fits ?_);simp only [Bool.and_false,Bool.false_eq_true,if_false];have hsm:t.sameMemory t.moves t.mask=some true:=by unfold sameMemory;simp
     rw [hsm];dsimp only;rw [if_pos rfl,h3];dsimp only;rw [hes];dsimp only;refine wpAny_bind (wpAny_isSame_ref_self (wpAny_bind (wpAny_pure ?_)));simp only [if_true];have ii:it t N (st.getD (t.probeStart h))=it t (N-(m+1)) (it t (m+1) (st.getD (t.probeStart h))):=by rw [<-Zdu];congr 1;omega
     refine ZaN hu ho hd hok hx hne hq fuel (N-(m+1)) (some (it t (m+1) (st.getD (t.probeStart h)))) (by omega) (by omega) ?_ ?_
     · show(it t (m+1) (st.getD (t.probeStart h))).dummy=none
       rw [ZcD];exact hdm
     · show t.slot (it t (N-(m+1)) (it t (m+1) (st.getD (t.probeStart h)))).j = .empty
       rw [<-ii];exact he
    cases t.led
    · simp only [Bool.not_false,if_true]
      refine wpAny_bind (Zjl hx (λv hv => ?_) ?_)
      · obtain⟨e',he',rfl⟩:=List.mem_map.mp hv
        obtain⟨a',ks',z1,z2,_⟩:=hne e' (by
         rw [Array.toList_filter]at he';exact(List.mem_filter.mp he').1)
        exact⟨a',ks',z1,z2⟩
      · simp only [Bool.false_eq_true,if_false]
        rw [hes];exact cont
    · simp only [Bool.not_true,Bool.false_eq_true,if_false]
      rw [hes];exact cont
end
end STb
namespace STb
open PySem PySem.SetTable
section
variable{prog:Program}{w:World}{K:Type} [DecidableEq K](knd:KeyKind prog w K)
def SetT(h:Heap)(S:Addr)(done:List (List K)):Prop:=∃o es ep t,h.get? S=some o/\o.ExactSet/\o.data = .set es ep t/\tOk t es.size/\es.size=done.length/\∀e∈es.toList,∃a ks,e.2 = .ref a/\IsTupleKey knd h ks a/\ks∈done
variable{knd}{A:Around}{E:Value->Shared->Prop}{s:Shared}
theorem Zbx{h h':Heap}{ks:List K}{a S:Addr}{o:Obj}{es ep t}(x:IsTupleKey knd h ks a)(ho:h.get? S=some o)(hd:o.data = .set es ep t)(hs:Heap.SameBut S h h'):IsTupleKey knd h' ks a:=by
 obtain⟨o',items,n,ho',hc,hd',hi⟩:=x
 have hne:a≠S:=by
  rintro rfl
  obtain rfl:o'=o:=Option.some.inj (ho'.symm.trans ho);rw [hd]at hd';exact nomatch hd'
 exact⟨o',items,n,(hs.2 a hne).trans ho',hc,hd',hi⟩
theorem Zaj{α:Type}(xs:Array α)(p:Nat)(x:α):(insertAt xs p x).size=xs.size+1:=by
 unfold insertAt;simp;omega
theorem ZbN{α:Type}{xs:Array α}{p:Nat}{x y:α}(h:y∈(insertAt xs p x).toList):y=x\/y∈xs.toList:=by
 unfold insertAt at h;rw [Array.toList_append,List.mem_append,Array.toList_push,List.mem_append]at h
 have ex:∀a b,y∈(xs.extract a b).toList->y∈xs.toList:=λa b q=>by
  simp only [Array.toList_extract]at q;exact List.mem_of_mem_drop (List.mem_of_mem_take q)
 rcases h with(h|h)|h
 · exact .inr (ex _ _ h)
 · exact .inl (by simpa using h)
 · exact .inr (ex _ _ h)
theorem Zjm{t:SetTable}{n:Nat}(j:Nat)(h:tOk t n)(hn:n<76):tOk' (t.put j).1 (n+1)/\((t.put j).1.tooFull=false->tOk (t.put j).1 (n+1))/\((t.put j).1.tooFull=true->((t.put j).1.mask=7/\n+1=5)\/((t.put j).1.mask=31/\n+1=19)):=by
 obtain⟨h1,h2,h3⟩:=h
 have e1:(t.put j).1.dummies = #[]:=by
  unfold put;dsimp only;rw [h1,if_neg];intro q;unfold has at q;simp at q
 have e2:(t.put j).1.place.size=n+1:=by
  unfold put;dsimp only;rw [Zaj,h2]
 have e3:(t.put j).1.mask=t.mask:=rfl;have e4:(t.put j).1.fill=n+1:=by unfold fill;rw [e1,e2];rfl
 refine⟨⟨e1,e2,by rw [e3];omega,by rw [e3];omega⟩,λq=>⟨e1,e2,?_⟩,λq => ?_⟩
 · unfold tooFull at q
   rw [e4,e3,decide_eq_false_iff_not]at q;rw [e3];omega
 · unfold tooFull at q
   rw [e4,e3,decide_eq_true_eq]at q;rw [e3];omega
theorem Zfz {S:Addr} {o:Obj} {es:Array (Int×Value)} {ep:Nat} {t:SetTable} {Q:Unit->Shared->Prop} (ho:s.heap.get? S=some o) (hd:o.data = .set es ep t) (hok:tOk' t es.size)
 (hz:(t.mask=7/\es.size=5)\/(t.mask=31/\es.size=19))
 (h:∀es' t',tOk t' es'.size->es'.size=es.size->(∀e∈es'.toList,e∈es.toList)->Q () { s with heap:=s.heap.update S (Obj.putSet es' t') }) :
 wpAny (model prog w) A (setRelay S (grown es.size)) Q E s:=by
 unfold setRelay;refine wpAny_bind (wpAny_setState_of ho hd hok.fits ?_);dsimp only
 obtain⟨m,hm,hml⟩:∃m,sizeAbove (grown es.size)=m+1/\((m=31/\es.size=5)\/(m=127/\es.size=19)):=by
  rcases hz with⟨_,z⟩|⟨_,z⟩
  · exact⟨31,by rw [z];decide,.inl ⟨rfl,z⟩⟩
  · exact⟨127,by rw [z];decide,.inr ⟨rfl,z⟩⟩
 rw [hm,if_neg (by rw [sizeLine_eq];omega)];have hmk:okm m=true:=by rcases hml with⟨z,_⟩|⟨z,_⟩<;>rw [z]<;>first|exact ZiC|exact Zgq
 obtain⟨t',od,e1,e2,e3,e4,e5,e6⟩:=ZhJ hmk t.finger (t.movedTo m) t.led t.plain (es.map (·.1)) (by rw [Array.size_map];omega)
 have er:t.relaid (es.map (·.1)) (grown es.size)=some (t',od):=by
  unfold relaid;rw [hm,Nat.add_sub_cancel];exact e1
 rw [Array.size_map]at e4 e5 e6
 have fm:∀l:List Nat,(∀i∈l,i<es.size)->(l.filterMap (es[·]?)).length=l.length:=λl hl=>by
  induction l with
  |nil=>rfl
  |cons i l ih=>
   rw [List.filterMap_cons,Array.getElem?_eq_getElem (hl i List.mem_cons_self)];simp only [List.length_cons];rw [ih λj hj=>hl j (List.mem_cons_of_mem _ hj)]
 have hsz:(od.filterMap (es[·]?)).size=es.size:=by
  rw [<-Array.length_toList,Array.toList_filterMap,fm _ e6,Array.length_toList,e5]
 refine wpAny_bind ?_;rw [er];show wpAny _ _ (if((od.filterMap (es[·]?)).size != es.size)=true then _ else _) _ _ _;rw [hsz,if_neg (by simp)];refine wpAny_pure ?_;dsimp only;refine wpAny_storeSet_of ho hd ?_ (by rw [hsz,sizeLine_eq];omega);refine h _ _ ⟨e3,by rw [e4,hsz],by rw [e2,hsz];omega⟩ hsz λe he => ?_
 rw [Array.toList_filterMap]at he;obtain⟨i,_,q⟩:=List.mem_filterMap.mp he;rw [<-Array.getElem?_toList]at q;exact List.mem_of_getElem? q
theorem ZeP {S:Addr} {done:List (List K)} {kx:List K} {ax:Addr} {h:Int} {Q:Bool->Shared->Prop} (hu:A.units<cLine) (hS:SetT knd s.heap S done) (hx:IsTupleKey knd s.heap kx ax) (hn:kx∉done) (hl:done.length<76)
 (hq:∀h',Heap.SameBut S s.heap h'->SetT knd h' S (kx::done)->Q true { s with heap:=h' }):wpAny (model prog w) A (setAddHashed S (.ref ax) h) Q E s:=by
 obtain⟨o,es,ep,t,ho,hex,hd,hok,hlen,hel⟩:=hS;unfold setAddHashed setAddHashedIn;refine wpAny_holding (wpAny_bind (wpAny_setState_of ho hd hok.weak.fits ?_));dsimp only;rw [if_neg (by simp [byScan,Value.scannable])];obtain⟨N,hN1,hN2⟩:=Zfy hok.weak.okm hok.1 (by rw [hok.2.1];exact hok.weak.2.2.2) h
 have hN3:N<100000:=by
  have:=hok.weak.2.2.1;unfold turns at hN1;omega
 refine wpAny_bind (ZaN hu ho hd hok.weak hx (λe he => ?_) (λj => ?_) 100000 N none hN3 hN1 rfl hN2)
 · obtain⟨a,ks,z1,z2,z3⟩:=hel e he
   exact⟨a,ks,z1,z2,λq=>hn (q▸z3)⟩
 dsimp only;refine wpAny_bind (wpAny_setState_of ho hd hok.weak.fits ?_);dsimp only;obtain⟨p1,p2,p3⟩:=Zjm j hok (by omega)
 have rest:∀b:Bool,wpAny (model prog w) A (do
  let t2:=if b then(t.put j).1 else{ (t.put j).1 with plain:=false }
  storeSet S (insertAt es (t.put j).2 (h,.ref ax)) t2
  if !false&&t2.tooFull then setRelay S (grown (es.size+1))
  return true) Q E s:=λb=>by
  have hb:∀(f:SetTable),f=(if b then(t.put j).1 else{ (t.put j).1 with plain:=false })->tOk' f (es.size+1)/\f.tooFull=(t.put j).1.tooFull/\f.mask=(t.put j).1.mask/\(tOk (t.put j).1 (es.size+1)->tOk f (es.size+1)):=λf hf=>by
   subst hf;cases b<;>exact⟨p1,rfl,rfl,id⟩
  generalize hT:(if b then(t.put j).1 else{ (t.put j).1 with plain:=false })=T;obtain⟨q1,q2,q3,q4⟩:=hb T hT.symm;dsimp only;have hsz:=Zaj es (t.put j).2 (h,Value.ref ax)
  have ho1:(s.heap.update S (Obj.putSet (insertAt es (t.put j).2 (h,.ref ax)) T)).get? S=some { o with data := .set (insertAt es (t.put j).2 (h,.ref ax)) (ep+1) T }:=by
   have:=Heap.get?_update_self (Obj.putSet (insertAt es (t.put j).2 (h,.ref ax)) T) ho (by rw [putSet_of _ _ hd];rfl);rw [putSet_of _ _ hd]at this;exact this
  have sb1:=Heap.SameBut.update s.heap S (Obj.putSet (insertAt es (t.put j).2 (h,.ref ax)) T)
  have els:∀{h':Heap},Heap.SameBut S s.heap h'->∀e,e∈(insertAt es (t.put j).2 (h,Value.ref ax)).toList->∃a ks,e.2 = .ref a/\IsTupleKey knd h' ks a/\ks∈kx::done:=λhs e he=>by
   rcases ZbN he with rfl|he
   · exact⟨ax,kx,rfl,Zbx hx ho hd hs,List.mem_cons_self⟩
   · obtain⟨a,ks,z1,z2,z3⟩:=hel e he
     exact⟨a,ks,z1,Zbx z2 ho hd hs,List.mem_cons_of_mem _ z3⟩
  refine wpAny_bind (wpAny_storeSet_of ho hd ?_ (by rw [hsz,sizeLine_eq];omega));rw [q2];cases hf:(t.put j).1.tooFull with
  |false=>
   simp only [Bool.not_false,Bool.and_false,Bool.false_eq_true,if_false];exact wpAny_pure (hq _ sb1 ⟨_,_,_,_,ho1,hex,rfl,by rw [hsz];exact q4 (p2 hf),by rw [hsz,hlen];rfl,els sb1⟩)
  |true=>
   simp only [Bool.not_false,Bool.and_true,if_true];rw [show es.size+1=(insertAt es (t.put j).2 (h,Value.ref ax)).size from hsz.symm];refine wpAny_bind (Zfz ho1 rfl (by rw [hsz];exact q1) (by rw [hsz,q3];exact p3 hf) λes' t' z1 z2 z3 => ?_)
   have ho2:((s.heap.update S (Obj.putSet (insertAt es (t.put j).2 (h,.ref ax)) T)).update S (Obj.putSet es' t')).get? S=some { o with data := .set es' (ep+1+1) t' }:=by
    have:=Heap.get?_update_self (Obj.putSet es' t') ho1 (by rw [putSet_of _ _ rfl];rfl);rw [putSet_of _ _ rfl]at this;exact this
   have sb2:=sb1.trans (Heap.SameBut.update _ S (Obj.putSet es' t'));exact wpAny_pure (hq _ sb2 ⟨_,_,_,_,ho2,hex,rfl,z1,by rw [z2,hsz,hlen];rfl,λe he=>els sb2 e (z3 e he)⟩)
 split
 · refine wpAny_bind (Zjk hx λb => ?_)
   exact rest b
 · refine wpAny_bind (wpAny_pure ?_)
   exact rest true
end
end STb
namespace STb
open PySem PySem.SetTable
section
variable{prog:Program}{w:World}{K:Type} [DecidableEq K]{knd:KeyKind prog w K}{A:Around}{s:Shared}
theorem SetT.moved {h h':Heap} {S:Addr} {done:List (List K)} {wr:List Addr} (x:SetT knd h S done) (hS:S∉wr) (hw:∀b∈wr,∃o,h.get? b=some o/\∀its n,o.data ≠ .seq its n)
 (k:∀b o,b∉wr->h.get? b=some o->h'.get? b=some o):SetT knd h' S done:=by
 obtain⟨o,es,ep,t,ho,hex,hd,hok,hlen,hel⟩:=x;refine⟨o,es,ep,t,k _ _ hS ho,hex,hd,hok,hlen,λe he => ?_⟩;obtain⟨a,ks,z1,⟨o',its,n,y1,y2,y3,y4⟩,z3⟩:=hel e he;refine⟨a,ks,z1,⟨o',its,n,k _ _ (λhm => ?_) y1,y2,y3,y4⟩,z3⟩;obtain⟨o2,q1,q2⟩:=hw a hm;rw [y1]at q1;cases q1;exact q2 _ _ y3
theorem ZfA{h h':Heap}{ks:List K}{a:Addr}(x:IsTupleKey knd h ks a)(k:∀b o,h.get? b=some o->h'.get? b=some o):IsTupleKey knd h' ks a:=by
 obtain⟨o,its,n,y1,y2⟩:=x;exact⟨o,its,n,k _ _ y1,y2⟩
theorem Zkc {R:Result->Shared->Prop} {I:Addr} {fp wr:List Addr} {G:Array GenState->Array GenState->Prop} {n:Nat} {P:Nat->Value->Prop} {St:Nat->Shared->Prop} (W:WalksS prog w A.in1 I fp wr G n P St) (hu:A.units+1<cLine) (S:Addr) (hSf:S∉fp) {h0:Heap} (h0n:∀b∈S::wr,h0.get? b=none)
 (hI:∀i s,St i s->∀b∈wr,∃o,s.heap.get? b=some o/\∀its n,o.data ≠ .seq its n) (ks:List (List K)) (hnd:ks.Nodup) (hkl:ks.length=n) (h76:n<=76)
 (hval:∀i v,P i v->∃a kx,v = .ref a/\ks[i]? = some kx/\IsTupleKey knd h0 kx a) :
 ∀(k i:Nat)(s:Shared),n-i=k->i<=n->St i s->(∀b o,h0.get? b=some o->s.heap.get? b=some o)->SetT knd s.heap S (ks.take i).reverse ->
  (∀s',Moved (S::wr) G s s'->SetT knd s'.heap S ks.reverse->R (.ok (.ret .none)) s')->codeAny (model prog w) A (.builtin "set.update.loop" ⟨[.ref S,.ref I],[]⟩) R s:=by
 have hSw:S∉wr:=λh=>hSf (W.sub _ h)
 have hsub:∀b∈wr,b∈S::wr:=λb hb=>List.mem_cons_of_mem _ hb
 intro k
 induction k with
 |zero=>
  intro i s hk hi hst hk0 hS hR;have hin:i=n:=by omega
  subst hin;refine codeAny_builtin PyProof.Rows.F.entry_set_update_loop ?_;rw [Around.under_plainId PyProof.Rows.F.plain_set_update_loop _];show wpAny _ A.in1 (pyNext (.ref I) >>= _) _ _ s;refine wpAny_bind (W.done s _ _ hst λs' hm => ?_);show wpAny _ A.in1 (ret Value.none) _ _ s';rw [<-hkl,List.take_length]at hS;exact wpAny_pure (hR s' (hm.mono hsub) (hS.moved hSw (hI _ _ hst) λb o hb e=>hm.heap b o hb e))
 |succ k ih=>
  intro i s hk hi hst hk0 hS hR;have hlt:i<n:=by omega
  refine codeAny_builtin PyProof.Rows.F.entry_set_update_loop ?_;rw [Around.under_plainId PyProof.Rows.F.plain_set_update_loop _];show wpAny _ A.in1 (pyNext (.ref I) >>= _) _ _ s;refine wpAny_bind (W.item i s _ _ hlt hst λv s' hP hst' hm => ?_);obtain⟨a,kx,rfl,hkx,hky⟩:=hval i v hP;have hk1:∀b o,h0.get? b=some o->s'.heap.get? b=some o:=λb o e=>hm.heap b o (λhb=>by rw [h0n b (hsub b hb)]at e;cases e) (hk0 b o e)
  have hS':=hS.moved hSw (hI _ _ hst) λb o hb e=>hm.heap b o hb e
  show wpAny _ A.in1 (holding [Value.ref a] (setAdd S (.ref a)) >>= _) _ _ s';refine wpAny_bind (wpAny_holding ?_);unfold setAdd;refine wpAny_holding ?_;have hy':=ZfA hky hk1;refine wpAny_bind (wpAny_pyHash_tuple hu hy' ?_);have hkl':i<ks.length:=by omega
  have hki:ks[i]=kx:=by rw [List.getElem?_eq_getElem hkl']at hkx;exact Option.some.inj hkx
  have htk:(ks.take (i+1)).reverse=kx::(ks.take i).reverse:=by
   rw [List.take_succ_eq_append_getElem hkl',List.reverse_append,hki];rfl
  have hni:kx∉(ks.take i).reverse:=λhm'=>by
   rw [List.mem_reverse]at hm';obtain⟨j,hj,e⟩:=List.mem_iff_getElem.mp hm';rw [List.getElem_take]at e;rw [List.length_take]at hj;exact List.pairwise_iff_getElem.mp hnd j i (by omega) hkl' (by omega) (e.trans hki.symm)
  have hlk:(ks.take i).reverse.length<76:=by rw [List.length_reverse,List.length_take];omega
  refine ZeP (s:={ s' with toks:=s'.toks+(kx.length+1) }) hu hS' hy' hni hlk λh' hsb hS2 => ?_
  rw [<-htk]at hS2;refine wpAny_pure ⟨plainId_quiet PyProof.Rows.F.plain_set_update_loop _,ih (i+1) _ (by omega) hlt (W.frame _ s' _ _ hst' (Nat.le_add_right _ _) λb hb o e => ?_) (λb o e => ?_) hS2 λs'' hm'' hS'' => ?_⟩
  · rw [hsb.2 b (λh:b=S=>hSf (by rw [<-h];exact hb))];exact e
  · rw [hsb.2 b (λh:b=S=>by rw [h,h0n S List.mem_cons_self]at e;cases e)];exact hk1 b o e
  · refine hR s'' (Moved.trans W.gtrans ((hm.mono hsub).then_heap (Nat.le_add_right _ _) λb o hb e => ?_) hm'') hS''
    rw [hsb.2 b (λh:b=S=>hb (by rw [h];exact List.mem_cons_self))];exact e
theorem call_set_tup {E:Value->Shared->Prop} {l:Addr} {items:Array Value} {ks:List (List K)} {Q:Value->Shared->Prop} (hh:A.handled=none) (hu:A.units+8<cLine) (hl:s.heap.IsTuple l items) (hk:ks.length=items.size) (hnd:ks.Nodup) (hb:items.size<=76)
 (hv:∀(i:Nat)(v:Value),items[i]? = some v->∃a kx,v = .ref a/\ks[i]? = some kx/\IsTupleKey knd s.heap kx a)
 (h:∀(h':Heap)(tk:Nat),SetT knd h' s.heap.objs.size ks.reverse->(∀b o,b<s.heap.objs.size->s.heap.get? b=some o->h'.get? b=some o)->Q (.ref s.heap.objs.size) { s with heap:=h',toks:=tk }) :
 wpAny (model prog w) A (call (.type "set") [.ref l]) Q E s:=by
 obtain⟨c,tl,hmro⟩:=F.called_set.mro;have hmade:=F.called_set.made;have hsub:=F.called_set.sub;refine wpAny_call (codeAny_of_tree ?_);show wpAny _ _ (callAny (.type "set") _) _ _ _;refine wpAny_pure ⟨Code.quiet_builtin _ (by decide +kernel),codeAny_builtin F.entry_type_call ?_⟩;rw [Around.under_plain (weight_type_call_type "set" [.ref l] []) rfl];have h1:=F.called_set.notType;have h2:=F.called_set.canCreate
 have hct:=F.typeCall_set_1 (.ref l)
 repeat (any_goals (first|assumption|wp_step))
 refine codeAny_mono (code_set_new_1 (.ref l) (E:=E) (Q₁:=λob s₁=>∃led:Bool,ob = .ref s.heap.objs.size/\s₁={ s with heap:=s.heap.push { cls := .type "set",dict:=none,data := .set #[] 0 (.fresh 0 0 led) } }) λled=>⟨led,rfl,rfl⟩) λr s₁ hr => ?_
 cases r with
 |error e=>exact hr
 |ok fl=>
  cases fl with
  |ret obj=>
   obtain⟨led,rfl,rfl⟩:=hr
   let so:Obj:={ cls := .type "set",dict:=none,data := .set #[] 0 (.fresh 0 0 led) }
   have hS:(s.heap.push so).get? s.heap.objs.size=some so:=Heap.get?_push_size _ rfl;have hT:Shared.TypeIs { s with heap:=s.heap.push so } (.ref s.heap.objs.size) "set" := ⟨_,hS,rfl⟩
   have hli:=F.called_set.init.lookup;have hbi:=F.called_set.init.bind (.ref s.heap.objs.size)
   repeat (any_goals (first|assumption|wp_step))
   refine codeAny_mono (codeAny_call_builtin (R:=wants (λr s₂=>r = .none/\∃h' tk,s₂={ s with heap:=h',toks:=tk }/\SetT knd h' s.heap.objs.size ks.reverse /\
    (∀b o,b<s.heap.objs.size->s.heap.get? b=some o->h'.get? b=some o)) E) F.called_set.init.plain F.entry_set_init (check_set_init_1 hT ?_)) λr₂ s₂ hr₂ => ?_
   · obtain⟨ol,hol,hcl,nl,hdl⟩:=hl
     obtain⟨ocls,odict,odata,oslots⟩:=ol;simp only at hcl hdl;subst hcl;subst hdl;have hol':(s.heap.push so).get? l=some { cls := .type "tuple",dict:=odict,data := .seq items nl,slots:=oslots }:=Heap.get?_push_of_some _ hol;have hsls:=F.sub_tuple_set;have hslf:=F.sub_tuple_frozenset;have hne:(Value.type "tuple" == Value.type "dict")=false:=by decide
     have hl1:(s.heap.push so).IsTuple l items:=⟨_,hol',rfl,nl,rfl⟩
     unfold Builtin.«set.__init__» noKeywords Builtin.Frozenset.updateFrom;generalize hPI:pyIter=PI
     wp_walk
     subst hPI;refine wpAny_pyIter_tuple hl1 ?_;refine wpAny_bind (wpAny_runValue ?_);have hlS:l<s.heap.objs.size:=Heap.lt_size hol;have hh3:A.in1.in1.in1.handled=none:=by simp [hh]
     have hneI:l≠(s.heap.push so).objs.size:=by
      rw [Heap.size_push];exact Nat.ne_of_lt (Nat.lt_succ_of_lt hlS)
     have hSf:s.heap.objs.size∉[(s.heap.push so).objs.size,l]:=by
      rw [Heap.size_push];simp only [List.mem_cons,List.mem_singleton,List.not_mem_nil,or_false,not_or];exact⟨Nat.ne_of_lt (Nat.lt_succ_self _),Nat.ne_of_gt hlS⟩
     refine Zkc (knd:=knd) ((Walks.tuple hh3 _ l hneI items).toS) (show A.units+2+1<cLine by omega) s.heap.objs.size hSf (h0:=s.heap) (λb hb => ?_) (λi s' st b hb => ?_) ks hnd hk hb hv (items.size-0) 0 _ (by omega) (Nat.zero_le _)
      ⟨⟨_,Heap.get?_push_size _ rfl,rfl,rfl⟩,hl1.at λo e=>Heap.get?_push_of_some _ e⟩ (λb o e=>Heap.get?_push_of_some _ (Heap.get?_push_of_some _ e)) ?hS0 ?hR
     · rcases List.mem_cons.mp hb with rfl|hb
       · exact Heap.get?_none_of_le (Nat.le_refl _)
       · rw [List.mem_singleton.mp hb,Heap.size_push]
         exact Heap.get?_none_of_le (Nat.le_succ _)
     · rw [List.mem_singleton.mp hb]
       obtain⟨⟨o,e1,e2,e3⟩,_⟩:=st;exact⟨o,e1,λits n z=>by rw [e3]at z;cases z⟩
     case hS0=>
      exact⟨so,#[],0,_,Heap.get?_push_of_some _ hS,⟨rfl,rfl,rfl⟩,rfl,⟨rfl,rfl,.inl ⟨rfl,by decide⟩⟩,rfl,λe he=>by simp at he⟩
     case hR=>
      intro s' hm hS';obtain⟨h',g',d',tk',os'⟩:=s';have eg:g'=s.gens:=hm.gens;have ed:d'=s.drawn:=hm.drawn;have eo:os'=s.os:=hm.os;subst eg;subst ed;subst eo;show wpAny _ _ _ _ _ _;refine wpAny_pure ?_;show wpAny _ _ (ret Value.none) _ _ _;refine wpAny_pure ⟨rfl,h',tk',rfl,hS',λb o hb e => ?_⟩;have hb1:b≠s.heap.objs.size:=Nat.ne_of_lt hb
      have hb2:b≠(s.heap.push so).objs.size:=by
       rw [Heap.size_push];exact Nat.ne_of_lt (Nat.lt_succ_of_lt hb)
      exact hm.heap b o (by simp only [List.mem_cons,List.mem_singleton,List.not_mem_nil,or_false,not_or];exact⟨hb1,hb2⟩) (Heap.get?_push_of_some _ (Heap.get?_push_of_some _ e))
   · cases r₂ with
     |error e=>exact hr₂
     |ok fl₂=>
      cases fl₂ with
      |ret r=>
       obtain⟨rfl,h',tk,rfl,hS',hk'⟩:=hr₂
       repeat (any_goals (first|assumption|wp_step))
       exact h _ _ hS' hk'
      |_=>exact hr₂.elim
  |_=>exact hr.elim
end
end STb
namespace L2
open PySem PySem.Spec PyProof.Rows
def Zd4(K:PySem.W.Frag):List V->Hp->VK->Prop:=λxs H Q=>∃(p:Addr) (ps:List Addr) (ks:List (List Key)),xs=[.ref p]/\SqT K H p (ps.map V.ref)/\ps.length=ks.length/\(∀(i:Nat)(b:Addr)(k:List Key),ps[i]? = some b->ks[i]? = some k->H b=some (.tup (k.map kV)))/\ks.Nodup/\ks.length<=76/\Q (.int ks.length) H
section
variable{X:Cx}
theorem ZeQ {K:PySem.W.Frag} {a:Expr} {t:TA} {p p2 pos pos2:Pos} (hcm:X.calm=true) (hu:X.A.units+64<cLine) (hg:Gl X "len") (hm:X.mg "len" = none) (hgs:Gl X "set") (hms:X.mg "set" = none) (ha:PA X [a] t)
 (hs:starEach [a] X.env=[(false,eval a X.env)]:=by rfl) (ho:starEach [.Call (.Name "set" p2) [a] [] pos2] X.env=[(false,eval (.Call (.Name "set" p2) [a] [] pos2) X.env)]:=by rfl) (hK:X.K=K:=by rfl) :
 PE X (.Call (.Name "len" p) [.Call (.Name "set" p2) [a] [] pos2] [] pos) (tCB (Zd4 K) t):=by
 subst hK;intro pins s σ H Q I h;refine wpAny_Call_Name_kw (Va I hg hm boot_len ?_ (by decide) (by decide));refine PyProof.Rows.callWith_builtin1 ?_ ho rfl;rw [ho];refine Calls.spliced_cons ?_;refine Call_ (Va I hgs hms boot_set (PyProof.Rows.callWith_type1 (thn (ha pos2 pins s σ H _ I h) λus s1 ⟨vs,H1,I1,r1,q1⟩ => ?_) hs rfl));obtain⟨q,ps,ks,rfl,hq,hpl,hk,hnd,hl,hQ⟩:=q1;obtain⟨u,rfl,ru⟩:=YV r1
 cases ru;obtain⟨its,rv,pt,hz⟩:=I1.tuple hq;have el:ps.length=its.length:=by have:=rv.length;simpa using this
 refine STb.call_set_tup (knd:=Xg X.prog X.w) (ks:=ks) (I1.ok.hd hcm) (by omega) pt (by simp;omega) hnd (by simp;omega) (λi v e => ?_) λh' tk hS hk' => ?_
 · have e':its[i]? = some v:=by simpa using e
   have hi:i<ps.length:=by have:=(List.getElem?_eq_some_iff.mp e').1;omega
   have hi2:i<ks.length:=by omega
   obtain⟨v',e1,e2⟩:=rv.get (show(ps.map V.ref)[i]? = some (V.ref ps[i]) by rw [List.getElem?_map,List.getElem?_eq_getElem hi];rfl);rw [e']at e1;cases e1;cases e2;exact⟨ps[i],ks[i],rfl,List.getElem?_eq_getElem hi2,QQ I1.hok (hk i _ _ (List.getElem?_eq_getElem hi) (List.getElem?_eq_getElem hi2))⟩
 · refine Calls.spliced_nil ?_
   have I2:Inv X pins σ H1 { s1 with heap:=h',toks:=tk }:=I1.kept (t':=tk) λb o e=>hk' b o (Heap.lt_size e) e
   obtain⟨o,es,ep,tb,g1,g2,g3,g4,g5,_⟩:=hS;rw [List.length_reverse]at g5;refine call_len_set g1 g2 g3 g4.weak.fits (by omega) ⟨.int ks.length,H1,I2.tok _,⟨_,by rw [<-g5]⟩,hQ⟩
end
end L2
namespace DL
open PySem PySem.Spec L2
section
variable{cA:Kn}{G:Cn}{ow:List Nat}
def Ur:List D->Option (List (List Key))
 | []=>some []
 |x::xs=>match ZjO x,Ur xs with
  |some k,some ks=>some (k::ks)
  |_,_=>none
theorem Zby{av:Addr->Prop}{H:Hp}:∀{xs:List D}{ks:List (List Key)}{vs:List V},Ur xs=some ks->RepL cA av H xs vs ->
 ∃ps:List Addr,vs=ps.map V.ref/\ps.length=ks.length/\∀(i:Nat)(b:Addr)(k:List Key),ps[i]? = some b->ks[i]? = some k->H b=some (.tup (k.map kV))
 | [],ks,vs,h,l=>by cases h;exact⟨[],l.nil_of,rfl,λi b k e=>by simp at e⟩
 |x::xs,ks,vs,h,l=>by
  obtain⟨v,r,rfl,h1,h2⟩:=l.uncons;unfold Ur at h;cases hk:ZjO x with
  |none=>rw [hk]at h;cases h
  |some k=>
   cases hks:Ur xs with
   |none=>rw [hk,hks]at h;cases h
   |some ks'=>
    rw [hk,hks]at h;cases h;obtain⟨b,rfl,hb⟩:=Zft hk h1;obtain⟨ps,rfl,g1,g2⟩:=Zby hks h2;refine⟨b::ps,rfl,by simp [g1],λi b' k' e1 e2 => ?_⟩;cases i with
    |zero=>cases e1;cases e2;exact hb
    |succ i=>exact g2 i b' k' e1 e2
def lenSetD:List D->Option D
 | [.tup xs]=>match Ur xs with
  |some ks=>if ks.Nodup/\ks.length<=76 then some (.int ks.length)else none
  |none=>none
 |_=>none
theorem ZeR:X1 cA (Zd4 cA.K) lenSetD:=λi H ds vs d _ h e Q k=>by
 unfold lenSetD at e
 split at e
 · rename_i xs
   split at e
   · rename_i ks hks
     by_cases hz:ks.Nodup/\ks.length<=76
     · rw [if_pos hz]at e
       cases e;obtain⟨v,t,rfl,a,ws,rfl,_,r,l⟩:=il1 h;obtain⟨ps,rfl,g1,g2⟩:=Zby hks l;exact⟨a,ps,ks,rfl,SqT.of r,g1,g2,hz.1,hz.2,k _ H (Same.refl H) rfl⟩
     · rw [if_neg hz]at e;cases e
   · cases e
 · cases e
end
end DL
namespace PySem
theorem ZaP:isSubtype (.type "range_iterator") (.type "reversed")=pure false:=by rw [isSubtype_type];kernel_rfl
def Uz(a b c:Int):Bool:=Builtin.Range.rangeFitsLong a&&Builtin.Range.rangeFitsLong b&&Builtin.Range.rangeFitsLong c&&Builtin.Range.rangeFitsLong (-c)&&Builtin.Range.rangeFitsLong (a-c)&&Builtin.Range.rangeFitsLong (Builtin.Range.rangeSize a b c)
theorem ZaQ(r:Addr)(a b c:Int)(t u v:Tok)(hc0:¬(!Uz a b c)=true) :
 Meets (Builtin.«range.__reversed__» ⟨[.ref r],[]⟩) (λ_ R s=>s.heap.get? r=some { cls := .type "range",dict:=none,data := .fields #[.int a t,.int b u,.int c v],slots := #[] }/\R (.ok (.ret (Value.ref s.heap.objs.size))) { s with heap:=s.heap.push { cls:=Value.type (if Uz a b c=true then "range_iterator" else "longrange_iterator"),data:=Data.fields #[rawInt (a+(Builtin.Range.rangeSize a b c-1)*c),rawInt (Builtin.Range.rangeSize a b c),rawInt (-c)] },toks:=s.toks }):=
 .of_wp λprog w A R s h=>by
  obtain⟨hp,g,d,tk,os⟩:=s;obtain⟨hl,h⟩:=h;unfold Uz at hc0 h
  wp_walk
  exact⟨_,rfl,h⟩
section
variable{prog:Program}{w:World}{A:Around}{E:Value->Shared->Prop}{s:Shared}
theorem Zal {r:Addr} {a b c:Int} {t u v:Tok} {Q₁:Value->Shared->Prop} (hr:IsRange s.heap r a b c t u v) (hs:Uz a b c=true)
 (h:Q₁ (.ref s.heap.objs.size) { s with heap:=s.heap.push { cls := .type "range_iterator",data := .fields #[rawInt (a+(Builtin.Range.rangeSize a b c-1)*c),rawInt (Builtin.Range.rangeSize a b c),rawInt (-c)] } }) :
 codeAny (model prog w) A (.call (.builtin "reversed.__new__") ⟨[.type "reversed",.ref r],[]⟩) (wants Q₁ E) s:=by
 have hT:s.TypeIs (.ref r) "range" := ⟨_,hr,rfl⟩
 refine codeAny_of_tree ?_;show wpAny _ A.in1 (do checkBuiltinCall "reversed.__new__" ⟨[.type "reversed",.ref r],[]⟩;again (.builtin "reversed.__new__" ⟨[.type "reversed",.ref r],[]⟩)) _ _ s;refine wpAny_bind (wpAny_of_eq (F.newCall_reversed_1 _) (wpAny_pure ⟨plainId_quiet F.plain_reversed_new _,codeAny_builtin F.entry_reversed_new ?_⟩));rw [Around.under_plainId F.plain_reversed_new _];unfold Builtin.«reversed.__new__»
 refine wpAny_bind (wpAny_of_eq (newClass_reversed _) ?_)
 try dsimp only
 refine wpAny_bind (wpAny_of_eq (a:=()) (by kernel_rfl) ?_);refine wpAny_bind (wpAny_of_eq (a:=()) (by kernel_rfl) ?_)
 try dsimp only
 refine wpAny_bind (wpAny_specialOf hT F.slot_range_reversed.lookup ?_)
 try dsimp only
 refine wpAny_bind (wpAny_of_eq (F.slot_range_reversed.bind _) ?_)
 try dsimp only
 rw [if_neg (show ¬((Value.builtin "range.__reversed__" == Value.none)=true)from Bool.false_ne_true)];refine wpAny_bind (wpAny_rule ?_);refine wpAny_bind (m:=runValue (.call (.builtin "range.__reversed__") ⟨[.ref r],[]⟩)) (show wpAny _ _ (call (.builtin "range.__reversed__") [.ref r]) _ _ _ from call_meets F.slot_range_reversed hT F.entry_range_reversed (F.args_range_reversed_1 _) (ZaQ r a b c t u v (by simp [hs])) ⟨hr,?_⟩)
 rw [if_pos hs];exact wpAny_pure h
theorem Zah {r:Addr} {a b c:Int} {t u v:Tok} {Q:Value->Shared->Prop} (hr:IsRange s.heap r a b c t u v) (hs:Uz a b c=true)
 (h:Q (.ref s.heap.objs.size) { s with heap:=s.heap.push { cls := .type "range_iterator",data := .fields #[rawInt (a+(Builtin.Range.rangeSize a b c-1)*c),rawInt (Builtin.Range.rangeSize a b c),rawInt (-c)] } }) :
 wpAny (model prog w) A (call (.type "reversed") [.ref r]) Q E s:=by
 refine callType_other (U:="range_iterator") (Q₁:=λobj s₁=>obj = .ref s.heap.objs.size/\s₁={ s with heap:=s.heap.push { cls := .type "range_iterator",data := .fields #[rawInt (a+(Builtin.Range.rangeSize a b c-1)*c),rawInt (Builtin.Range.rangeSize a b c),rawInt (-c)] } })
  (by decide +kernel) F.create_reversed ⟨_,_,F.mro_reversed⟩ F.made_reversed ZaP (F.typeCall_reversed_1 _) (Zal hr hs ⟨rfl,rfl⟩) ?_
 rintro obj s₁ ⟨rfl,rfl⟩
 exact⟨⟨_,Heap.get?_push_size _ rfl,rfl⟩,h⟩
end
end PySem
namespace L2
open PySem PySem.Spec PyProof.Rows
section
variable{X:Cx}{tg:Expr}
def Zlp(ta:TA):TI:=λσ H R=>ta σ H λvs H1=>∃j:Int,vs=[.int j]/\0<=j/\j<2 ^ 62/\R (ZjN (j-1) (-1) j.toNat) H1
theorem ZfB{j:Int}(h0:0<=j)(h1:j<2 ^ 62):Uz 0 j 1=true/\Builtin.Range.rangeSize 0 j 1=j:=by
 have e:Builtin.Range.rangeSize 0 j 1=j:=by
  unfold Builtin.Range.rangeSize;rw [if_pos (by decide)]
  split<;>omega
 refine⟨?_,e⟩;unfold Uz;rw [e];unfold Builtin.Range.rangeFitsLong;simp only [Bool.and_eq_true,decide_eq_true_eq];omega
theorem Zjn {a:Expr} {ta:TA} {p p2 pos pos2:Pos} (hg:Gl X "reversed") (hm:X.mg "reversed" = none) (hgr:Gl X "range") (hmr:X.mg "range" = none) (ha:PA X [a] ta) (hs:starEach [a] X.env=[(false,eval a X.env)]:=by rfl)
 (ho:starEach [.Call (.Name "range" p2) [a] [] pos2] X.env=[(false,eval (.Call (.Name "range" p2) [a] [] pos2) X.env)]:=by rfl) :
 PI X tg (.Call (.Name "reversed" p) [.Call (.Name "range" p2) [a] [] pos2] [] pos) (Zlp ta):=by
 intro pins s σ H R I h;refine Call_ (Va I hg hm boot_reversed (PyProof.Rows.callWith_type1 ?_ ho rfl));rw [ho];refine Calls.spliced_cons ?_;refine Call_ (Va I hgr hmr boot_range (PyProof.Rows.callWith_type1 (thn (ha pos2 pins s σ H _ I h) λus s1 ⟨vs,H1,I1,r1,q1⟩ => ?_) hs rfl));obtain⟨j,rfl,q1,q2,q⟩:=q1;obtain⟨u,rfl,ru⟩:=YV r1;obtain⟨t,rfl⟩:=ru;refine call_range_1 ?_;refine Calls.spliced_nil ?_
 obtain⟨e1,e2⟩:=ZfB q1 q2;refine Zah (IsRange.new ..) e1 ?_;rw [e2];refine wpAny_pyIter_rangeiter (x:=0+(j-1)*1) (left:=j) (step:=-1) (Heap.get?_push_size _ rfl) ?_;have I2:Inv X pins σ H1 { s1 with heap:=s1.heap.push { cls := .type "range",data := .fields #[.int 0 s1.toks,.int j t,.int 1 (s1.toks+1)] },toks:=s1.toks+1+1 }:=I1.kept λb o e=>Heap.get?_push_of_some _ e
 refine⟨(s1.heap.push { cls := .type "range",data := .fields #[.int 0 s1.toks,.int j t,.int 1 (s1.toks+1)] }).objs.size,[(s1.heap.push { cls := .type "range",data := .fields #[.int 0 s1.toks,.int j t,.int 1 (s1.toks+1)] }).objs.size],_,_,H1,rfl,
  I2.kept (t':=s1.toks+1+1) λb o e=>Heap.get?_push_of_some _ e,Zcb _ (j-1) (-1) j.toNat,?_,λb hb => ?_,q⟩
 · have z1:j-1+((0:Nat):Int)*(-1)=0+(j-1)*1:=by omega
   have z2:((j.toNat:Nat):Int)-((0:Nat):Int)=j:=by omega
   show IsRangeIter _ _ (j-1+((0:Nat):Int)*(-1)) (((j.toNat:Nat):Int)-((0:Nat):Int)) (-1);rw [z1,z2];exact Heap.get?_push_size _ rfl
 · have e:b=(s1.heap.push { cls := .type "range",data := .fields #[.int 0 s1.toks,.int j t,.int 1 (s1.toks+1)] }).objs.size:=by simpa using hb
   subst e;exact I2.fpOk (Nat.le_refl _) (I2.hok.fresh (Nat.le_refl _))
end
end L2
namespace DL
open PySem PySem.Spec L2
section
variable{cA:Kn}{G:Cn}{ow:List Nat}
def Qt(α:Env->Option (List D))(δ:Env):Option (List D):=match α δ with
 |some [.int j]=>if 0<=j/\j<2 ^ 62 then some (Z9 (j-1) (-1) j.toNat)else none
 |_=>none
theorem Zjo{ta:TA}{q:Ql}{a:Env->Option (List D)}(h:VA G ow ta q a):VI G ow (Zlp ta) (Qt a):=λH0 av A σ H δ E xs e R k=>by
 unfold Qt at e;cases he:a δ with
 |none=>rw [he]at e;cases e
 |some ds=>
  rw [he]at e;refine h H0 av A σ H δ E ds he _ λvs H1 s r => ?_
  split at e
  · rename_i j he2
    cases he2
    by_cases hz:0<=j/\j<2 ^ 62
    · rw [if_pos hz]at e
      cases e;exact⟨j,ql1 r,hz.1,hz.2,k _ H1 s Zda⟩
    · rw [if_neg hz]at e;cases e
  · cases e
end
end DL
namespace DL
open PySem PySem.Spec L2
theorem ZbX(i j:Int):eqD (.int i) (.int j)=some (.bl (decide (i=j))):=by
 show(if(ZA (.int i)&&ZA (.int j)&&scal (V.int i) (V.int j))=true then some (D.bl (decide (V.int i=V.int j)))else _)=_;rw [if_pos (by rfl)];simp
theorem ZbY(a b:List Nat):eqD (.str a) (.str b)=some (.bl (decide (a=b))):=by
 show(if(ZA (.str a)&&ZA (.str b)&&scal (S a) (S b))=true then some (D.bl (decide (S a=S b)))else _)=_;rw [if_pos (by rfl)];simp only [ZjZ]
theorem Zd5(a b:Bool):eqD (.bl a) (.bl b)=some (.bl (decide (a=b))):=by
 show(if(ZA (.bl a)&&ZA (.bl b)&&scal (V.bl a) (V.bl b))=true then some (D.bl (decide (V.bl a=V.bl b)))else _)=_;rw [if_pos (by rfl)];simp
theorem Zdv:eqD .non .non=some (.bl true):=rfl
theorem Zdw(i:Int):eqD .non (.int i)=some (.bl false):=by
 show(if(ZA .non&&ZA (.int i)&&scal V.non (V.int i))=true then some (D.bl (decide (V.non=V.int i)))else _)=_;rw [if_pos (by rfl)];simp
theorem Zdx(i:Int):eqD (.int i) .non=some (.bl false):=by
 show(if(ZA (.int i)&&ZA .non&&scal (V.int i) V.non)=true then some (D.bl (decide (V.int i=V.non)))else _)=_;rw [if_pos (by rfl)];simp
theorem Zd6(i j:Int):neD (.int i) (.int j)=some (.bl (!decide (i=j))):=by unfold neD;rw [ZbX]
theorem Zd7(i j:List Nat):neD (.str i) (.str j)=some (.bl (!decide (i=j))):=by unfold neD;rw [ZbY]
theorem Zgw:neD .non .non=some (.bl false):=by unfold neD;rw [Zdv];rfl
theorem Zgx(i:Int):neD .non (.int i)=some (.bl true):=by unfold neD;rw [Zdw];rfl
theorem Zgy(i:Int):neD (.int i) .non=some (.bl true):=by unfold neD;rw [Zdx];rfl
end DL
namespace DL
open PySem PySem.Spec L2
end DL
namespace DL
open PySem PySem.Spec L2
theorem ZhK{cs:List Nat}{i:Int}{c:Nat}(h:cs.length<=sizeLine)(hz:atI cs i=some c):ixD (.str cs) (.int i)=some (.str [c]):=by
 show(if cs.length<=sizeLine then(atI cs i).map λc=>D.str [c]else none)=_;rw [if_pos h,hz];rfl
end DL
namespace DL
open PySem PySem.Spec L2
theorem Zn{a b:Env->Option Out}{δ δ':Env}(h:a δ=some (.nx δ')):Zg a b δ=b δ':=by
 unfold Zg;rw [h]
theorem U8{a b:Env->Option Out}{δ:Env}{d:D}(h:a δ=some (.rt d)):Zg a b δ=some (.rt d):=by
 unfold Zg;rw [h]
theorem ZK{i:Nat}{e:Env->Option D}{δ:Env}{d:D}(h:e δ=some d):Zl i e δ=some (.nx (δ.set i (some d))):=by
 unfold Zl;rw [h]
theorem Ys{e:Env->Option D}{δ:Env}{d:D}(h:e δ=some d):ZE e δ=some (.rt d):=by
 unfold ZE;rw [h]
theorem X5{t:Env->Option Bool}{a b:Env->Option Out}{δ:Env}(h:t δ=some true):sIf t a b δ=a δ:=by
 unfold sIf;rw [h]
theorem YK{t:Env->Option Bool}{a b:Env->Option Out}{δ:Env}(h:t δ=some false):sIf t a b δ=b δ:=by
 unfold sIf;rw [h]
theorem ZY{e:Env->Option D}{δ:Env}{b:Bool}(h:e δ=some (.bl b)):xB e δ=some b:=by
 unfold xB;rw [h];rfl
theorem Zd8{t:Env->Option Bool}{δ:Env}{b:Bool}(h:t δ=some b):Vg t δ=some (!b):=by
 unfold Vg;rw [h]
theorem Jb{a b:Env->Option Bool}{δ:Env}{x:Bool}(h1:a δ=some false)(h2:b δ=some x):xOr a b δ=some x:=by
 unfold xOr;rw [h1];exact h2
theorem UA{a b:Env->Option Bool}{δ:Env}{x:Bool}(h1:a δ=some true)(h2:b δ=some x):YW a b δ=some x:=by
 unfold YW;rw [h1];exact h2
theorem Jc{a b:Env->Option Bool}{δ:Env}(h1:a δ=some false):YW a b δ=some false:=by
 unfold YW;rw [h1]
theorem Yh{n:Nat}{m:List D->Option D}{α:Env->Option (List D)}{δ:Env}{ds:List D}(h:α δ=some ds)(hn:ds.length=n):ZB n m [] α δ=m ds:=by
 unfold ZB;rw [h];dsimp only;rw [List.append_nil,if_pos hn]
theorem Zf{a:Env->Option D}{b:Env->Option (List D)}{δ:Env}{x:D}{xs:List D}(h1:a δ=some x)(h2:b δ=some xs):Zb a b δ=some (x::xs):=by
 unfold Zb;rw [h1,h2]
theorem Zi{f:D->D->Option D}{a b:Env->Option D}{δ:Env}{x y:D}(h1:a δ=some x)(h2:b δ=some y):eOp f a b δ=f x y:=by
 unfold eOp;rw [h1,h2]
theorem Zd9{a b:Env->Option D}{δ:Env}{x:D}(h1:a δ=some (.bl true))(h2:b δ=some x):Vh a b δ=some x:=by
 unfold Vh;rw [h1];exact h2
theorem VR{α:Env->Option (List D)}{δ:Env}{ds:List D}(h:α δ=some ds)(hl:ds.length<=1000):Yl α δ=(some (.tup ds):Option D):=by
 unfold Yl;rw [h];exact if_pos (Nat.le_trans hl (by decide))
theorem Xq{α:Env->Option (List D)}{δ:Env}{ds:List D}(h:α δ=some ds)(hl:ds.length<=1000):ZS α δ=(some (.lst ds):Option D):=by
 unfold ZS;rw [h];exact if_pos (Nat.le_trans hl (by decide))
theorem Qu{γ:D->Env->Option Env}{φ:Env->Option Out}(I:Env->Prop):∀(xs:List D)(δ:Env),I δ ->
 (∀x∈xs,∀δ,I δ->∃δ1,γ x δ=some δ1/\∃δ2,φ δ1=some (.nx δ2)/\I δ2)->∃δ',ZV γ φ xs δ=some (.nx δ')/\I δ'
 | [],δ,h,_=>⟨δ,rfl,h⟩
 |x::xs,δ,h,step=>by
  obtain⟨δ1,h1,δ2,h2,h3⟩:=step x List.mem_cons_self δ h;obtain⟨δ',h4,h5⟩:=Qu I xs δ2 h3 λy hy=>step y (List.mem_cons_of_mem _ hy)
  refine⟨δ',?_,h5⟩;unfold ZV;rw [h1];dsimp only;rw [h2];exact h4
theorem ZbZ{lo c:Int}{n:Nat}{x:D}(h:x∈Z9 lo c n):∃k:Nat,k<n/\x = .int (lo+(k:Nat)*c):=by
 unfold Z9 at h;obtain⟨k,hk,rfl⟩:=List.mem_map.mp h;exact⟨k,List.mem_range.mp hk,rfl⟩
theorem ZcG {τ:Env->Option Bool} {φ:Env->Option Out} (I J:Env->Prop) (μ:Env->Nat)
 (step:∀δ,I δ->(τ δ=some false/\J δ)\/(τ δ=some true/\∃δ',φ δ=some (.nx δ')/\I δ'/\μ δ'<μ δ)) :
 ∀(k:Nat)(δ:Env),μ δ<=k->I δ->∃n δ',YC τ φ n δ=some (.nx δ')/\J δ'
 |0,δ,hk,h=>by
  rcases step δ h with⟨h1,h2⟩|⟨h1,δ',h2,h3,h4⟩
  · exact⟨1,δ,by unfold YC;rw [h1],h2⟩
  · omega
 |k+1,δ,hk,h=>by
  rcases step δ h with⟨h1,h2⟩|⟨h1,δ',h2,h3,h4⟩
  · exact⟨1,δ,by unfold YC;rw [h1],h2⟩
  · obtain⟨n,δ2,h5,h6⟩:=ZcG I J μ step k δ' (by omega) h3
    refine⟨n+1,δ2,?_,h6⟩;unfold YC;rw [h1];dsimp only;rw [h2];exact h5
theorem ZaY {τ:Env->Option Bool} {φ:Env->Option Out} (I J:Env->Prop) (μ:Env->Nat)
 (step:∀δ,I δ->(τ δ=some false/\J δ)\/(τ δ=some true/\∃δ',φ δ=some (.nx δ')/\I δ'/\μ δ'<μ δ)) (δ:Env) (h:I δ):∃δ',X3 τ φ δ=some (.nx δ')/\J δ':=by
 obtain⟨n,δ',h1,h2⟩:=ZcG I J μ step (μ δ) δ (Nat.le_refl _) h;exact⟨δ',ZeA h1,h2⟩
theorem ZiF{i:Int}(h:i.natAbs<=10 ^ 1000):Wd i:=Nat.lt_of_le_of_lt h (by decide +kernel)
theorem ZcH{i j:Int}(h1:j≠0)(h2:Wd j):fdivW (.int i) (.int j)=some (.int (i.fdiv j)):=if_pos ⟨h1,h2⟩
theorem Zb0{i j:Int}(h1:j≠0):modW (.int i) (.int j)=some (.int (i.fmod j)):=if_pos h1
theorem ZhL{a b:Int}(h:0<b):0<=a.fmod b/\a.fmod b<b:=by
 rw [Int.fmod_eq_emod_of_nonneg a (by omega)];exact⟨Int.emod_nonneg a (by omega),Int.emod_lt_of_pos a h⟩
end DL
namespace DL
open PySem PySem.Spec L2
theorem Xy{α:Env->Option (List D)}{δ:Env}{j:Int}(h:α δ=some [.int j])(h1 : -1000000<=j)(h2:j<=1000000):ZL α δ=some (Z9 0 1 j.toNat):=by
 unfold ZL;rw [h];dsimp only;rw [if_pos ⟨by omega,by omega⟩]
theorem Zgz{α:Env->Option (List D)}{δ:Env}{i j:Int}(h:α δ=some [.int i,.int j])(h1 : -1000000<=j)(h2:j<=1000000)(h3 : -1000000<=i)(h4:i<=1000000):ZL α δ=some (Z9 i 1 (j-i).toNat):=by
 unfold ZL;rw [h];dsimp only;rw [if_pos ⟨by omega,by omega,by omega,by omega⟩]
theorem Us{i:Nat}{ε:Env->Option D}{δ:Env}{xs:List D}{d:D}(h1:Za i δ=some (.lst xs))(h2:ε δ=some d)(hl:xs.length<=1000000):Yr i ε δ=some (.nx (δ.set i (some (.lst (xs++[d]))))):=by
 unfold Yr;rw [h1];dsimp only;rw [h2];dsimp only;rw [if_pos (by rw [PySem.sizeLine_eq];omega)]
theorem Xe{ι:Env->Option (List D)}{γ:D->Env->Option Env}{φ:Env->Option Out}{δ:Env}{xs:List D}{o:Out}(h1:ι δ=some xs)(h2:ZV γ φ xs δ=some o):Z5 ι γ φ δ=some o:=by
 unfold Z5;rw [h1];exact h2
theorem Yp{ι:Env->Option (List D)}{γ:D->Env->Option Env}{τ:Env->Option Bool}{ε:Env->Option D}{n:Nat}{js:List Nat}{δ δ0:Env}{xs ys:List D}(h1:ι δ=some xs)(hb:Yv n δ js=δ0)(h2:Ym γ τ ε δ0 xs=some ys)(hl:ys.length<=1000000):ZC ι γ τ ε n js δ=some (.lst ys):=by
 unfold ZC;rw [h1];dsimp only;rw [hb,h2];dsimp only;rw [if_pos (by rw [PySem.sizeLine_eq];omega)]
theorem ZF{f:List D->Option D}{α:Env->Option (List D)}{δ:Env}{ds:List D}(h:α δ=some ds):eCB f α δ=f ds:=by
 unfold eCB;rw [h]
theorem YF{n:Nat}{f:Env->Option Out}{vs:List D}{δ:Env}{d:D}(h1:(vs.map some++List.replicate (n-vs.length) none)=δ)(h2:f δ=some (.rt d)):DL.run n f vs=some d:=by
 unfold DL.run;rw [h1,h2]
theorem nil_of{δ:Env}:eNil δ=some []:=rfl
theorem Jd{t:List (String×Bool)}{a:Env->Option D}{δ:Env}{d:D}{b:Bool}(h1:a δ=some d)(h2:UY t d=some b):X4 t a δ=some (.bl b):=by
 unfold X4;rw [h1];dsimp only;rw [h2]
end DL
namespace DL
open PySem PySem.Spec L2
theorem ZfC{x:D}(hs:ZA x=false)(h:SeqAt.shaped (toP x)=true):eqD x x=some (.bl true):=by
 unfold eqD;rw [if_neg (by simp [hs]),h,if_pos (by rfl)];rw [SeqAt.eqv_refl _ (SeqAt.canLay_of_shaped h)]
theorem Je{x:D}(hs:ZA x=false)(h:SeqAt.shaped (toP x)=true):neD x x=some (.bl false):=by
 unfold neD;rw [ZfC hs h];rfl
def Xf(w:List Nat):Prop:=∀c∈w,c<1114112
theorem ZfD{w:List Nat}(h:Xf w):PyData.strOk (tx w)=true:=by
 unfold PyData.strOk tx;simpa [Xf]using h
theorem Jf:∀ws:List Int,PyData.canLayAll0 (Yi (ws.map D.int))=true
 | []=>rfl
 |w::ws=>by rw [List.map_cons,Yi,PyData.canLayAll0,Jf ws];rfl
theorem Jg:∀ws:List Int,PyData.depthAll (Yi (ws.map D.int))=0
 | []=>rfl
 |w::ws=>by rw [List.map_cons,Yi,PyData.depthAll,Jg ws];rfl
theorem Zcg(ws:List Int):SeqAt.shaped (toP (.lst (ws.map D.int)))=true:=by
 simp [SeqAt.shaped,toP,PyData.canLay0,PyData.depth,Jf,Jg]
end DL
namespace DL
open PySem PySem.Spec L2
theorem add_int(i j:Int):addX (.int i) (.int j)=some (.int (i+j)):=rfl
theorem add_str{a b:List Nat}(h:a.length+b.length<=100000):addX (.str a) (.str b)=some (.str (a++b)):=by
 show(if a.length+b.length<=PySem.sizeLine then some (D.str (a++b))else none)=_;rw [if_pos (by rw [PySem.sizeLine_eq];omega)]
theorem Zaz{i j:Int}(h1 : -1000<=j)(h2:j<=1000):mulX (.int i) (.int j)=some (.int (i*j)):=if_pos (.inr (.inr ⟨by omega,by omega⟩))
theorem ZhM{a:List D}{n:Nat}(h:a.length*n<=100000)(hn:n<=100000):mulX (.lst a) (.int (n:Int))=some (.lst (List.replicate n a).flatten):=by
 unfold mulX;dsimp only;rw [Int.toNat_natCast,if_pos ⟨by omega,by omega,by rw [PySem.sizeLine_eq];omega⟩]
theorem Zea{n a:Nat}(h:a<n):ixN n (a:Int)=some a:=by
 unfold ixN;rw [if_pos (by omega),if_pos (by omega),Int.toNat_natCast]
theorem U9{xs:List D}{a:Nat}{x:D}(h:xs[a]? = some x):ixD (.lst xs) (.int (a:Int))=some x:=QO h
theorem ix_tup{xs:List D}{a:Nat}{x:D}(h:xs[a]? = some x):ixD (.tup xs) (.int (a:Int))=some x:=QO h
theorem ix_str{cs:List Nat}{a:Nat}{c:Nat}(h:cs[a]? = some c)(hl:cs.length<=100000):ixD (.str cs) (.int (a:Int))=some (.str [c]):=ZhK (by rw [PySem.sizeLine_eq];omega) (QO h)
theorem ZhN{cs:List Int}{a:Nat}(h:a<cs.length):ixD (.lst (cs.map D.int)) (.int (a:Int))=some (.int (cs.getD a 0)):=by
 refine U9 ?_;rw [List.getElem?_map,List.getElem?_eq_getElem h,List.getD_eq_getElem?_getD,List.getElem?_eq_getElem h];rfl
theorem ZhO{xs:List D}:lenD [.lst xs]=some (.int (xs.length:Int)):=rfl
theorem Jh{c:String}{n:Nat}{m:List D->Option D}{α:Env->Option (List D)}{δ:Env}{ds:List D}(h:α δ=some ds)(hn:ds.length+1=n):XJ c n m [] α δ=m (.obj c [] []::ds):=by
 unfold XJ;rw [h];dsimp only;rw [List.append_nil,if_pos (by rw [List.length_cons];exact hn)]
end DL
namespace K37
open PySem PySem.Spec L2 DL
def XR:List String:=["Web"]
def Xz:List String:=["Web"]
def XS:List String:=["Web"]
def Ji:List (String×Bool):=[("NoneType",false),("bool",false),("int",false),("str",false),("list",false),("tuple",false),("Web",true)]
def Qv:List (String×Bool):=[("NoneType",false),("bool",false),("int",false),("str",false),("list",false),("tuple",true),("Web",false)]
noncomputable def f_QM:DL.Env->Option Out:=
 (Zg (sIf (YW (xB (X4 Qv (Za 0))) (xB (eCB (Qo λbs=>bs.all id) (Zb (ZC (ZH (Za 0)) (Zm 0) (λ_=>some true) (X4 Qv (Za 0)) 1 []) eNil)))) (ZE (Za 0)) sNext)
 (ZE (eCB ZO (Zb (ZC (ZH (Za 0)) (Zm 0) (λ_=>some true) (eCB ZO (Zb (Za 0) eNil)) 1 []) eNil))))
noncomputable def UB:List D->Option D:=run 1 f_QM
noncomputable def f_QP:DL.Env->Option Out:=
 (Zg (YG 0 XR "homes" (eCB ZO (Zb (Za 1) eNil)))
 (Zg (YG 0 XS "weights" (eCB ZO (Zb (Za 2) eNil)))
 (YG 0 Xz "ways" (eCB ZO (Zb (ZC (ZH (Za 3)) (Zm 0) (λ_=>some true) (ZB 1 UB [] (Zb (Za 0) eNil)) 1 []) eNil)))))
noncomputable def VU:List D->Option D:=runI 4 f_QP
noncomputable def f_QN:DL.Env->Option Out:=
 (ZE (eCB lenD (Zb (Yg XR "homes" (Za 0)) eNil)))
noncomputable def Jj:List D->Option D:=run 1 f_QN
noncomputable def f_QQ:DL.Env->Option Out:=
 (Zg (sIf (xB (eOp (inD true) (Za 1) (ZC (ZH (Za 0)) (Zm 0) (λ_=>some true) (eOp ixD (Za 0) (eC (.int 1))) 1 []))) (ZE (Za 0)) sNext)
 (Zg (Zl 3 (ZS eNil))
 (Zg (Z5 (ZH (Za 0)) (Zm 4) (Zg (Yr 3 (Za 4))
 (sIf (xB (eOp eqD (eOp ixD (Za 4) (eC (.int 1))) (Za 1))) (Yr 3 (Yl (Zb (eOp ixD (Za 4) (eC (.int 0))) (Zb (Za 2) eNil)))) sNext)))
 (ZE (eCB ZO (Zb (Za 3) eNil))))))
noncomputable def Jk:List D->Option D:=run 5 f_QQ
noncomputable def Vk:MTab:=[("Web",1,Jj)]
noncomputable def f_QS:DL.Env->Option Out:=
 (Zg (Zl 4 (eOp ixD (Yg Xz "ways" (Za 0)) (Za 2)))
 (Zg (Zl 5 (ZC (Uy (Za 4)) (Y4 2 (ZW 0 (ZW 1 gsNil))) (xB (eOp (inD false) (Za 0) (Za 2))) (Za 1) 2 [3]))
 (Zg (Zl 6 (ZC (Uy (Za 4)) (Y4 2 (ZW 0 (ZW 1 gsNil))) (xB (eOp (inD true) (Za 0) (Za 2))) (Za 1) 2 [3]))
 (Zg (Zl 7 (eOp fdivW (eCB sumLD (Zb (ZC (ZH (Za 5)) (Zm 0) (λ_=>some true) (eOp ixD (Yg XS "weights" (Za 1)) (eOp ixD (Za 0) (eC (.int 1)))) 1 [0]) eNil)) (Za 1)))
 (Zg (Zl 8 (XM "many" Vk (Za 0) eNil))
 (Zg (Zl 9 (eOp Xd (eCB YJ (Zb (Yg Xz "ways" (Za 0)) eNil)) (ZS (Zb (Za 6) eNil))))
 (Zg (Xw 9 (Za 2) (Za 5))
 (Zg (Zl 10 (eOp Xd (eCB YJ (Zb (Yg XS "weights" (Za 0)) eNil)) (ZS (Zb (eOp subD (eOp ixD (Yg XS "weights" (Za 0)) (Za 2)) (Za 7)) eNil))))
 (Zg (Xw 10 (Za 2) (Za 7))
 (Zg (Zl 11 (eOp Xd (eCB YJ (Zb (Yg XR "homes" (Za 0)) eNil)) (ZS (Zb (eOp ixD (Yg XR "homes" (Za 0)) (Za 2)) eNil))))
 (ZE (XJ "Web" 4 VU [] (Zb (Za 11) (Zb (Za 10) (Zb (ZC (ZH (Za 9)) (Zm 0) (λ_=>some true) (ZB 3 Jk [] (Zb (Za 0) (Zb (Za 1) (Zb (Za 2) eNil)))) 1 [2,8]) eNil)))))))))))))))
noncomputable def Qw:List D->Option D:=run 12 f_QS
noncomputable def f_QR:DL.Env->Option Out:=
 (ZE (XJ "Web" 4 VU [] (Zb (Yg XR "homes" (Za 0)) (Zb (eOp Q8 (ZS (Zb (eC (.int 1)) eNil)) (XM "many" Vk (Za 0) eNil)) (Zb (Yg Xz "ways" (Za 0)) eNil)))))
noncomputable def Jl:List D->Option D:=run 1 f_QR
noncomputable def f_QA:DL.Env->Option Out:=
 (Zg (sIf (xB (eOp (Yu λi j=>decide (i<j)) (Za 1) (eCB lenD (Zb (Za 0) eNil)))) (ZE (eOp ixD (Za 0) (Za 1))) sNext)
 (ZE (eC (.int 0))))
noncomputable def Yx:List D->Option D:=run 2 f_QA
noncomputable def f_QJ:DL.Env->Option Out:=
 (ZE (eOp addX (eOp addX (eOp ixD (eC (.str [97,98,99,100])) (eOp modW (eOp fdivW (Za 0) (eC (.int 16))) (eC (.int 4)))) (eOp ixD (eC (.str [97,98,99,100])) (eOp modW (eOp fdivW (Za 0) (eC (.int 4))) (eC (.int 4))))) (eOp ixD (eC (.str [97,98,99,100])) (eOp modW (Za 0) (eC (.int 4))))))
noncomputable def Jm:List D->Option D:=run 1 f_QJ
noncomputable def f_QI:DL.Env->Option Out:=
 (ZE (eOp (Yu λi j=>decide (j<=i)) (eCB sumLD (Zb (ZC (ZH (eOp ixD (Za 1) (Za 2))) (Zm 0) (λ_=>some true) (eOp ixD (Za 1) (Za 0)) 1 [0]) eNil)) (eOp mulX (Za 3) (eOp ixD (Za 0) (Za 2)))))
noncomputable def Jn:List D->Option D:=run 4 f_QI
noncomputable def f_QG:DL.Env->Option Out:=
 (Zg (Zl 2 (ZS eNil))
 (Zg (Z5 (ZL (Zb (eCB lenD (Zb (Za 0) eNil)) eNil)) (Zm 3) (Zg (Zl 4 (eOp addX (eC (.int 19)) (Za 3)))
 (Zg (Zl 5 (eOp subD (eOp addX (Za 3) (eC (.int 1))) (eOp mulX (eOp modW (Za 3) (eC (.int 2))) (eC (.int 2)))))
 (Zg (sIf (YW (xB (eOp eqD (Za 1) (eC (.int 1)))) (YW (xB (eOp (Yu λi j=>decide (i<j)) (Za 5) (eCB lenD (Zb (Za 0) eNil)))) (xB (eOp neD (eOp ixD (Za 0) (Za 5)) (eOp ixD (Za 0) (Za 3)))))) (Zl 4 (eOp fdivW (Za 3) (eC (.int 2)))) sNext)
 (Yr 2 (Yl (Zb (ZB 1 Jm [] (Zb (Za 4) eNil)) (Zb (eOp ixD (Za 0) (Za 3)) eNil))))))))
 (ZE (eCB ZO (Zb (Za 2) eNil)))))
noncomputable def Jo:List D->Option D:=run 6 f_QG
noncomputable def f_QO:DL.Env->Option Out:=
 (Zg (Zl 3 (eOp addX (eC (.int 1)) (eOp modW (ZB 2 Yx [] (Zb (Za 0) (Zb (Za 1) eNil))) (eC (.int 5)))))
 (Zg (Zl 4 (ZC (ZL (Zb (Za 3) eNil)) (Zm 0) (λ_=>some true) (eOp addX (eC (.int 1)) (eOp modW (ZB 2 Yx [] (Zb (Za 1) (Zb (eOp addX (eOp addX (Za 2) (eC (.int 1))) (Za 0)) eNil))) (eC (.int 5)))) 1 [0,1]))
 (Zg (Zl 5 (ZC (ZL (Zb (Za 3) eNil)) (Zm 0) (λ_=>some true) (eOp modW (eOp fdivW (ZB 2 Yx [] (Zb (Za 1) (Zb (eOp addX (eOp addX (Za 2) (eC (.int 1))) (Za 0)) eNil))) (eC (.int 5))) (eC (.int 4))) 1 [0,1]))
 (Zg (U2 6 (U3 (ZC (ZL (Zb (Za 3) eNil)) (Zm 0) (λ_=>some true) (ZS (Zb (eOp modW (eOp addX (Za 0) (eC (.int 1))) (Za 1)) eNil)) 1 [3])))
 (Zg (Z5 (ZL (Zb (eOp addX (Za 1) (eC (.int 6))) (Zb (eCB lenD (Zb (Za 0) eNil)) eNil))) (Zm 7) (Zg (Xo 6 (Zl 8 (eOp modW (eOp fdivW (eOp ixD (Za 0) (Za 7)) (eC (.int 7))) (Za 3))))
 (sIf (xB (eOp (Yu λi j=>decide (i<j)) (eCB lenD (Zb (eOp ixD (Za 6) (Za 8)) eNil)) (eC (.int 8)))) (Vi 6 (Za 8) (eOp modW (eOp ixD (Za 0) (Za 7)) (Za 3))) sNext)))
 (Zg (Z5 (ZL (Zb (Za 3) eNil)) (Zm 8) (Zg (Xo 6 (Zl 9 (eOp modW (eOp fdivW (ZB 2 Yx [] (Zb (Za 0) (Zb (eOp addX (eOp addX (Za 1) (eC (.int 1))) (Za 8)) eNil))) (eC (.int 20))) (Za 3))))
 (X3 (Vg (xB (ZB 4 Jn [] (Zb (Za 4) (Zb (Za 6) (Zb (Za 8) (Zb (Za 2) eNil))))))) (Zg (Vi 6 (Za 8) (Za 9))
 (Xo 6 (Zl 9 (eOp modW (eOp addX (Za 9) (eC (.int 1))) (Za 3))))))))
 (U4 (Zg (Zl 10 (ZS eNil))
 (Zg (Z5 (ZL (Zb (Za 3) eNil)) (Zm 8) (Yr 10 (ZB 2 Jo [] (Zb (eOp ixD (Za 6) (Za 8)) (Zb (eOp modW (eOp fdivW (ZB 2 Yx [] (Zb (Za 0) (Zb (eC (.int 1)) eNil))) (eC (.int 2))) (eC (.int 2))) eNil)))))
 (ZE (Yl (Zb (eCB ZO (Zb (Za 5) eNil)) (Zb (eCB ZO (Zb (Za 4) eNil)) (Zb (eCB ZO (Zb (Za 10) eNil)) eNil))))))))))))))
noncomputable def Qx:List D->Option D:=run 11 f_QO
noncomputable def f_QD:DL.Env->Option Out:=
 (Zg (sIf (xB (eOp eqD (eOp modW (ZB 2 Yx [] (Zb (Za 0) (Zb (eC (.int 1)) eNil))) (eC (.int 2))) (eC (.int 0)))) (ZE (XJ "Web" 4 VU [] (Zb (eOp ixD (Za 1) (eC (.int 0))) (Zb (eOp ixD (Za 1) (eC (.int 1))) (Zb (eOp ixD (Za 1) (eC (.int 2))) eNil))))) sNext)
 (Q9 2 3 4 5 (eCB YJ (Zb (eOp ixD (Za 1) (eC (.int 0))) eNil)) (eCB YJ (Zb (eOp ixD (Za 1) (eC (.int 1))) eNil)) (ZC (ZH (eOp ixD (Za 1) (eC (.int 2)))) (Zm 0) (λ_=>some true) (eCB YJ (Zb (Za 0) eNil)) 1 []) (XJ "Web" 4 VU [] (Zb (eOp ixD (Za 2) (eC (.int 0))) (Zb (eOp ixD (Za 2) (eC (.int 1))) (Zb (eOp ixD (Za 2) (eC (.int 2))) eNil))))))
noncomputable def Jp:List D->Option D:=run 6 f_QD
noncomputable def f_QH:DL.Env->Option Out:=
 (Zg (Uq (Y4 3 (ZW 2 (ZW 3 (ZW 4 gsNil)))) (Za 0))
 (Zg (Z5 (ZL (Zb (eCB lenD (Zb (Za 2) eNil)) eNil)) (Zm 5) (sIf (xB (eOp (Yu λi j=>decide (i<j)) (eCB sumLD (Zb (ZC (ZH (eOp ixD (Za 4) (Za 5))) (Zm 0) (λ_=>some true) (eOp ixD (Za 1) (eOp ixD (Za 0) (eC (.int 1)))) 1 [3]) eNil)) (eOp mulX (Za 1) (eOp ixD (Za 3) (Za 5))))) (ZE (eC (.bl false))) sNext))
 (ZE (eC (.bl true)))))
noncomputable def Jq:List D->Option D:=run 6 f_QH
noncomputable def f_QB:DL.Env->Option Out:=
 (Zg (Zl 2 (eC (.dct [] [])))
 (Zg (Zl 3 (ZS (Zb (Za 1) eNil)))
 (Zg (X3 (xB (eOp (Yu λi j=>decide (j<i)) (eCB lenD (Zb (Za 3) eNil)) (eC (.int 0)))) (U5 (U6 3 (Za 0)) (Zm 4) (sIf (xB (eOp (inK true) (eOp ixD (Za 4) (eC (.int 1))) (Za 2))) (Zg (Vj 2 (eOp ixD (Za 4) (eC (.int 1))) (eC (.bl true)))
 (Yr 3 (eOp ixD (Za 4) (eC (.int 1))))) sNext)))
 (ZE (Za 2)))))
noncomputable def Qy:List D->Option D:=run 5 f_QB
noncomputable def f_QK:DL.Env->Option Out:=
 (Zg (Z5 (ZL (Zb (eCB lenD (Zb (eOp ixD (Za 0) (eC (.int 0))) eNil)) eNil)) (Zm 1) (sIf (xB (eOp neD (eCB lenKD (Zb (ZB 2 Qy [] (Zb (eOp ixD (Za 0) (eC (.int 2))) (Zb (Za 1) eNil))) eNil)) (eCB lenD (Zb (eOp ixD (Za 0) (eC (.int 0))) eNil)))) (ZE (eC (.bl false))) sNext))
 (ZE (eC (.bl true))))
noncomputable def Jr:List D->Option D:=run 2 f_QK
noncomputable def f_QE:DL.Env->Option Out:=
 (Zg (Zl 4 (ZC (ZL (Zb (eCB lenD (Zb (eOp ixD (Za 1) (Za 2)) eNil)) eNil)) (Zm 0) (xB (eOp (Yu λi j=>decide (i<j)) (eOp ixD (Za 1) (eOp ixD (eOp ixD (eOp ixD (Za 2) (Za 3)) (Za 0)) (eC (.int 1)))) (eOp ixD (Za 1) (Za 3)))) (Za 0) 1 [0,1,2]))
 (Zg (Zl 5 (ZC (Qt (Zb (eCB lenD (Zb (eOp ixD (Za 1) (Za 2)) eNil)) eNil)) (Zm 0) (xB (eOp neD (Za 0) (eOp ixD (Za 1) (eUn Uf (eC (.int 1)))))) (Za 0) 1 [4]))
 (Zg (Zl 5 (eOp Xd (ZS (Zb (eOp ixD (Za 4) (eUn Uf (eC (.int 1)))) eNil)) (eSl (Za 5) xNoP (xP (eOp subD (Za 3) (eC (.int 1)))))))
 (Zg (Z5 (ZL (Zb (eCB lenD (Zb (Za 5) eNil)) eNil)) (Zm 6) (Zg (Zl 7 (eC (.int 0)))
 (Z5 (ZL (Zb (Za 6) (Zb (eCB lenD (Zb (Za 5) eNil)) eNil))) (Zm 8) (Zg (Zl 7 (eOp addX (Za 7) (eOp ixD (Za 0) (eOp ixD (eOp ixD (eOp ixD (Za 1) (Za 2)) (eOp ixD (Za 5) (Za 8))) (eC (.int 1))))))
 (sIf (xB (eOp eqD (eOp modW (Za 7) (Za 3)) (eC (.int 0)))) (ZE (eCB Up (Zb (eSl (Za 5) (xP (Za 6)) (xP (eOp addX (Za 8) (eC (.int 1))))) eNil))) sNext)))))
 (ZE (ZS eNil))))))
noncomputable def Js:List D->Option D:=run 9 f_QE
noncomputable def f_QF:DL.Env->Option Out:=
 (Zg (Z5 (ZL (Zb (eCB lenD (Zb (Za 0) eNil)) eNil)) (Zm 2) (Zg (Zl 3 (eCB minQD (Zb (ZC (ZH (eOp ixD (Za 1) (Za 2))) (Zm 0) (λ_=>some true) (eOp ixD (Za 1) (eOp ixD (Za 0) (eC (.int 1)))) 1 [0]) eNil)))
 (sIf (YW (xB (eOp eqD (eOp ixD (Za 0) (Za 2)) (eCB maxQD (Zb (Za 0) eNil)))) (xB (eOp (Yu λi j=>decide (i<j)) (Za 3) (eOp ixD (Za 0) (Za 2))))) (ZE (Za 2)) sNext)))
 (ZE (eC .non)))
noncomputable def Qz:List D->Option D:=run 4 f_QF
noncomputable def f_QC:DL.Env->Option Out:=
 (Zg (Uq (Y4 3 (ZW 4 (ZW 5 (ZW 6 gsNil)))) (Za 0))
 (Zg (Zl 7 (ZC (ZH (Za 2)) (Zm 0) (λ_=>some true) (eOp ixD (eOp ixD (Za 1) (Za 2)) (Za 0)) 1 [6,1]))
 (Zg (Zl 8 (ZC (ZL (Zb (eCB lenD (Zb (eOp ixD (Za 6) (Za 1)) eNil)) eNil)) (Zm 0) (xB (eOp (inD true) (Za 0) (Za 3))) (eOp ixD (eOp ixD (Za 1) (Za 2)) (Za 0)) 1 [6,1,2]))
 (Zg (Zl 9 (eOp fdivW (eCB sumLD (Zb (ZC (ZH (Za 7)) (Zm 0) (λ_=>some true) (eOp ixD (Za 1) (eOp ixD (Za 0) (eC (.int 1)))) 1 [5]) eNil)) (Za 3)))
 (Zg (Zl 10 (eOp Xd (ZC (ZH (Za 6)) (Zm 0) (λ_=>some true) (eCB YJ (Zb (Za 0) eNil)) 1 []) (ZS (Zb (Za 8) eNil))))
 (Zg (Xw 10 (Za 1) (Za 7))
 (Zg (Zl 11 (ZS eNil))
 (Zg (Z5 (ZH (Za 10)) (Zm 12) (Zg (Zl 13 (ZS eNil))
 (Zg (Z5 (ZH (Za 12)) (Y4 2 (ZW 14 (ZW 15 gsNil))) (Zg (Yr 13 (Yl (Zb (Za 14) (Zb (Za 15) eNil))))
 (sIf (xB (eOp eqD (Za 15) (Za 1))) (Yr 13 (Yl (Zb (Za 14) (Zb (eCB lenD (Zb (Za 4) eNil)) eNil)))) sNext)))
 (Yr 11 (eCB ZO (Zb (Za 13) eNil))))))
 (Zg (Zl 16 (ZC (ZL (Zb (eCB lenD (Zb (Za 5) eNil)) eNil)) (Zm 0) (λ_=>some true) (eIf (xB (eOp neD (Za 0) (Za 1))) (eOp ixD (Za 2) (Za 0)) (Za 3)) 1 [1,5,9]))
 (ZE (Yl (Zb (eOp catT (Za 4) (Yl (Zb (eOp ixD (Za 4) (Za 1)) eNil))) (Zb (eCB ZO (Zb (eOp Xd (Za 16) (ZS (Zb (eOp subD (eOp ixD (Za 5) (Za 1)) (Za 9)) eNil))) eNil)) (Zb (eCB ZO (Zb (Za 11) eNil)) eNil))))))))))))))
noncomputable def QA:List D->Option D:=run 17 f_QC
noncomputable def f_QL:DL.Env->Option Out:=
 (ZE (Yl (Zb (Yg XR "homes" (Za 0)) (Zb (Yg XS "weights" (Za 0)) (Zb (Yg Xz "ways" (Za 0)) eNil)))))
noncomputable def VV:List D->Option D:=run 1 f_QL
noncomputable def f_QT:DL.Env->Option Out:=
 (Zg (Zl 1 (eOp addX (eC (.int 1)) (eOp modW (ZB 2 Yx [] (Zb (Za 0) (Zb (eC (.int 0)) eNil))) (eC (.int 6)))))
 (Zg (Zl 2 (ZB 3 Qx [] (Zb (Za 0) (Zb (eC (.int 2)) (Zb (Za 1) eNil)))))
 (Zg (Uq (Y4 3 (ZW 3 (ZW 4 (ZW 5 gsNil)))) (Za 2))
 (Zg (Zl 6 (ZB 2 Jp [] (Zb (Za 0) (Zb (Za 2) eNil))))
 (Zg (Zl 7 (ZB 1 Jl [] (Zb (Za 6) eNil)))
 (Zg (sIf (xOr (xB (eOp neD (ZB 1 VV [] (Zb (Za 7) eNil)) (Yl (Zb (Za 3) (Zb (eCB ZO (Zb (ZC (ZH (Za 3)) (Zm 0) (λ_=>some true) (eC (.int 1)) 1 []) eNil)) (Zb (Za 5) eNil)))))) (xB (eOp neD (ZB 1 VV [] (Zb (Za 6) eNil)) (Za 2)))) (ZE (eC (.bl false))) sNext)
 (Zg (Zl 8 (ZB 2 Qz [] (Zb (Za 4) (Zb (Za 5) eNil))))
 (Zg (sIf (xB (UV (Za 8))) (ZE (eOp eqD (eCB maxQD (Zb (Za 4) eNil)) (eCB minQD (Zb (Za 4) eNil)))) sNext)
 (Zg (Zl 9 (ZB 4 Js [] (Zb (Za 4) (Zb (Za 5) (Zb (Za 8) (Zb (Za 1) eNil))))))
 (Zg (Zl 10 (eCB YJ (Zb (Za 9) eNil)))
 (Zg (Zl 11 (ZB 4 Qw [] (Zb (Za 6) (Zb (Za 1) (Zb (Za 8) (Zb (Za 10) eNil))))))
 (Zg (sIf (xOr (xB (eOp neD (Za 10) (Za 9))) (xOr (xB (eOp neD (ZB 1 VV [] (Zb (Za 6) eNil)) (Za 2))) (Vg (xB (X4 Ji (Za 11)))))) (ZE (eC (.bl false))) sNext)
 (Zg (Zl 12 (ZB 4 QA [] (Zb (Za 2) (Zb (Za 8) (Zb (Za 9) (Zb (Za 1) eNil))))))
 (Zg (sIf (xOr (xB (eOp neD (ZB 1 VV [] (Zb (Za 11) eNil)) (Za 12))) (xB (eOp neD (XM "many" Vk (Za 11) eNil) (eOp addX (eCB lenD (Zb (Za 3) eNil)) (eC (.int 1)))))) (ZE (eC (.bl false))) sNext)
 (Zg (Z5 (ZH (Yg Xz "ways" (Za 11))) (Zm 13) (sIf (xB (eOp neD (eCB lenSetD (Zb (Za 13) eNil)) (eCB lenD (Zb (Za 13) eNil)))) (ZE (eC (.bl false))) sNext))
 (ZE (Vh (ZB 2 Jq [] (Zb (Za 12) (Zb (Za 1) eNil))) (Vh (ZB 1 Jr [] (Zb (Za 12) eNil)) (eOp eqD (eCB sumTD (Zb (eOp ixD (Za 12) (eC (.int 1))) eNil)) (eCB sumTD (Zb (Za 4) eNil)))))))))))))))))))))
noncomputable def Jt:List D->Option D:=run 14 f_QT
end K37
namespace K37
open PySem PySem.Spec L2 DL
def top(i:Nat):Stmt:=PySem.Challenge.pw_grooveway_k37_a_split_done.main.body.getD i (.Pass ⟨0,0,0,0⟩)
abbrev X6:Stmt:=top 1
abbrev Vl:Stmt:=ZdJ (top 2) 0
abbrev VW:Stmt:=ZdJ (top 2) 1
abbrev Vm:Stmt:=top 4
abbrev XA:Stmt:=top 5
abbrev VY:Stmt:=top 6
abbrev VZ:Stmt:=top 8
abbrev V0:Stmt:=top 9
abbrev Vn:Stmt:=top 10
abbrev V1:Stmt:=top 12
abbrev XT:Stmt:=top 11
abbrev Vo:Stmt:=top 13
abbrev Vp:Stmt:=top 14
abbrev V2:Stmt:=top 15
abbrev V3:Stmt:=top 16
abbrev X7:Stmt:=top 17
abbrev Vq:Stmt:=top 18
abbrev Xr:Stmt:=top 19
abbrev V4:Stmt:=top 20
abbrev XB:Stmt:=top 21
theorem Zkd:FnScope ["ways"] ["ways"] (defScope X6):=⟨rfl,rfl,rfl,by decide +kernel,rfl,by decide +kernel,by decide +kernel⟩
theorem Zke:FnScope ["self", "homes", "weights", "ways"] ["self", "homes", "weights", "ways"] (defScope Vl):=⟨rfl,rfl,rfl,by decide +kernel,rfl,by decide +kernel,by decide +kernel⟩
theorem Zkf:FnScope ["self"] ["self"] (defScope VW):=⟨rfl,rfl,rfl,by decide +kernel,rfl,by decide +kernel,by decide +kernel⟩
theorem Zkg:FnScope ["ways", "place", "new", "told", "way"] ["ways", "place", "new"] (defScope Vm):=⟨rfl,rfl,rfl,by decide +kernel,rfl,by decide +kernel,by decide +kernel⟩
theorem Zkh:FnScope ["web", "n", "place", "picks", "own", "picked", "others", "share", "new", "ways", "weights", "homes"] ["web", "n", "place", "picks"] (defScope XA):=⟨rfl,rfl,rfl,by decide +kernel,rfl,by decide +kernel,by decide +kernel⟩
theorem Zki:FnScope ["web"] ["web"] (defScope VY):=⟨rfl,rfl,rfl,by decide +kernel,rfl,by decide +kernel,by decide +kernel⟩
theorem Zkj:FnScope ["script", "k"] ["script", "k"] (defScope VZ):=⟨rfl,rfl,rfl,by decide +kernel,rfl,by decide +kernel,by decide +kernel⟩
theorem Zkk:FnScope ["k"] ["k"] (defScope V0):=⟨rfl,rfl,rfl,by decide +kernel,rfl,by decide +kernel,by decide +kernel⟩
theorem Zkl:FnScope ["weights", "rows", "place", "n"] ["weights", "rows", "place", "n"] (defScope Vn):=⟨rfl,rfl,rfl,by decide +kernel,rfl,by decide +kernel,by decide +kernel⟩
theorem Zkm:FnScope ["row", "twice", "named", "k", "number", "beside"] ["row", "twice"] (defScope V1):=⟨rfl,rfl,rfl,by decide +kernel,rfl,by decide +kernel,by decide +kernel⟩
theorem Zkn:FnScope ["script", "at", "n", "many", "weights", "homes", "rows", "k", "place", "to", "ways"] ["script", "at", "n"] (defScope XT):=⟨rfl,rfl,rfl,by decide +kernel,rfl,by decide +kernel,by decide +kernel⟩
theorem Zko:FnScope ["script", "told", "parts", "web", "row", "part"] ["script", "told"] (defScope Vo):=⟨rfl,rfl,rfl,by decide +kernel,rfl,by decide +kernel,by decide +kernel⟩
theorem Zkp:FnScope ["told", "n", "homes", "weights", "ways", "place"] ["told", "n"] (defScope Vp):=⟨rfl,rfl,rfl,by decide +kernel,rfl,by decide +kernel,by decide +kernel⟩
theorem Zkq:FnScope ["ways", "place", "seen", "ahead", "way"] ["ways", "place"] (defScope V2):=⟨rfl,rfl,rfl,by decide +kernel,rfl,by decide +kernel,by decide +kernel⟩
theorem Zkr:FnScope ["told", "place"] ["told"] (defScope V3):=⟨rfl,rfl,rfl,by decide +kernel,rfl,by decide +kernel,by decide +kernel⟩
theorem Zks:FnScope ["weights", "ways", "place", "n", "lesser", "row", "begin", "total", "end"] ["weights", "ways", "place", "n"] (defScope X7):=⟨rfl,rfl,rfl,by decide +kernel,rfl,by decide +kernel,by decide +kernel⟩
theorem Zkt:FnScope ["weights", "ways", "place", "lesser"] ["weights", "ways"] (defScope Vq):=⟨rfl,rfl,rfl,by decide +kernel,rfl,by decide +kernel,by decide +kernel⟩
theorem Zku:FnScope ["told", "place", "picks", "n", "homes", "weights", "ways", "mine", "rest", "share", "rows", "done", "row", "twice", "block", "to", "turned"] ["told", "place", "picks", "n"] (defScope Xr):=⟨rfl,rfl,rfl,by decide +kernel,rfl,by decide +kernel,by decide +kernel⟩
theorem Zkv:FnScope ["web"] ["web"] (defScope V4):=⟨rfl,rfl,rfl,by decide +kernel,rfl,by decide +kernel,by decide +kernel⟩
theorem Zkw:FnScope ["script", "n", "told", "homes", "weights", "ways", "web", "flat", "place", "picks", "kept", "found", "due", "row"] ["script"] (defScope XB):=⟨rfl,rfl,rfl,by decide +kernel,rfl,by decide +kernel,by decide +kernel⟩
structure Adr where
 a_QM:Addr
 d_QM:FuncData
 a_QP:Addr
 d_QP:FuncData
 a_QN:Addr
 d_QN:FuncData
 a_QQ:Addr
 d_QQ:FuncData
 a_QS:Addr
 d_QS:FuncData
 a_QR:Addr
 d_QR:FuncData
 a_QA:Addr
 d_QA:FuncData
 a_QJ:Addr
 d_QJ:FuncData
 a_QI:Addr
 d_QI:FuncData
 a_QG:Addr
 d_QG:FuncData
 a_QO:Addr
 d_QO:FuncData
 a_QD:Addr
 d_QD:FuncData
 a_QH:Addr
 d_QH:FuncData
 a_QB:Addr
 d_QB:FuncData
 a_QK:Addr
 d_QK:FuncData
 a_QE:Addr
 d_QE:FuncData
 a_QF:Addr
 d_QF:FuncData
 a_QC:Addr
 d_QC:FuncData
 a_QL:Addr
 d_QL:FuncData
 a_QT:Addr
 d_QT:FuncData
 c_Web:Addr
def Adr.c(t:Adr):String->Addr:=λc=>if c = "Web" then t.c_Web else 0
structure Txt(K:PySem.W.Frag)(mg:Str->Option Value)(t:Adr):Prop where
 f_QM:FunX K "kept_ways" "kept_ways" X6 t.a_QM t.d_QM
 b_QM:Binds K t.d_QM ["ways"] []
 g_QM:mg "kept_ways" = some (.ref t.a_QM)
 k_QM:keepIn K (.ref t.a_QM)=true
 f_QP:FunX K "__init__" "Web.__init__" Vl t.a_QP t.d_QP
 b_QP:Binds K t.d_QP ["self", "homes", "weights", "ways"] []
 k_QP:keepIn K (.ref t.a_QP)=true
 f_QN:FunX K "many" "Web.many" VW t.a_QN t.d_QN
 b_QN:Binds K t.d_QN ["self"] []
 k_QN:keepIn K (.ref t.a_QN)=true
 f_QQ:FunX K "doubled" "doubled" Vm t.a_QQ t.d_QQ
 b_QQ:Binds K t.d_QQ ["ways", "place", "new"] []
 g_QQ:mg "doubled" = some (.ref t.a_QQ)
 k_QQ:keepIn K (.ref t.a_QQ)=true
 f_QS:FunX K "split" "split" XA t.a_QS t.d_QS
 b_QS:Binds K t.d_QS ["web", "n", "place", "picks"] []
 g_QS:mg "split" = some (.ref t.a_QS)
 k_QS:keepIn K (.ref t.a_QS)=true
 f_QR:FunX K "evened" "evened" VY t.a_QR t.d_QR
 b_QR:Binds K t.d_QR ["web"] []
 g_QR:mg "evened" = some (.ref t.a_QR)
 k_QR:keepIn K (.ref t.a_QR)=true
 f_QA:FunX K "_law_cell_at" "_law_cell_at" VZ t.a_QA t.d_QA
 b_QA:Binds K t.d_QA ["script", "k"] []
 g_QA:mg "_law_cell_at" = some (.ref t.a_QA)
 k_QA:keepIn K (.ref t.a_QA)=true
 f_QJ:FunX K "_law_block" "_law_block" V0 t.a_QJ t.d_QJ
 b_QJ:Binds K t.d_QJ ["k"] []
 g_QJ:mg "_law_block" = some (.ref t.a_QJ)
 k_QJ:keepIn K (.ref t.a_QJ)=true
 f_QI:FunX K "_law_borne" "_law_borne" Vn t.a_QI t.d_QI
 b_QI:Binds K t.d_QI ["weights", "rows", "place", "n"] []
 g_QI:mg "_law_borne" = some (.ref t.a_QI)
 k_QI:keepIn K (.ref t.a_QI)=true
 f_QG:FunX K "_law_named" "_law_named" V1 t.a_QG t.d_QG
 b_QG:Binds K t.d_QG ["row", "twice"] []
 g_QG:mg "_law_named" = some (.ref t.a_QG)
 k_QG:keepIn K (.ref t.a_QG)=true
 f_QO:FunX K "_law_web" "_law_web" XT t.a_QO t.d_QO
 b_QO:Binds K t.d_QO ["script", "at", "n"] []
 g_QO:mg "_law_web" = some (.ref t.a_QO)
 k_QO:keepIn K (.ref t.a_QO)=true
 f_QD:FunX K "_law_handed" "_law_handed" Vo t.a_QD t.d_QD
 b_QD:Binds K t.d_QD ["script", "told"] []
 g_QD:mg "_law_handed" = some (.ref t.a_QD)
 k_QD:keepIn K (.ref t.a_QD)=true
 f_QH:FunX K "_law_bears" "_law_bears" Vp t.a_QH t.d_QH
 b_QH:Binds K t.d_QH ["told", "n"] []
 g_QH:mg "_law_bears" = some (.ref t.a_QH)
 k_QH:keepIn K (.ref t.a_QH)=true
 f_QB:FunX K "_law_come_to" "_law_come_to" V2 t.a_QB t.d_QB
 b_QB:Binds K t.d_QB ["ways", "place"] []
 g_QB:mg "_law_come_to" = some (.ref t.a_QB)
 k_QB:keepIn K (.ref t.a_QB)=true
 f_QK:FunX K "_law_tied" "_law_tied" V3 t.a_QK t.d_QK
 b_QK:Binds K t.d_QK ["told"] []
 g_QK:mg "_law_tied" = some (.ref t.a_QK)
 k_QK:keepIn K (.ref t.a_QK)=true
 f_QE:FunX K "_law_picks" "_law_picks" X7 t.a_QE t.d_QE
 b_QE:Binds K t.d_QE ["weights", "ways", "place", "n"] []
 g_QE:mg "_law_picks" = some (.ref t.a_QE)
 k_QE:keepIn K (.ref t.a_QE)=true
 f_QF:FunX K "_law_place" "_law_place" Vq t.a_QF t.d_QF
 b_QF:Binds K t.d_QF ["weights", "ways"] []
 g_QF:mg "_law_place" = some (.ref t.a_QF)
 k_QF:keepIn K (.ref t.a_QF)=true
 f_QC:FunX K "_law_behind" "_law_behind" Xr t.a_QC t.d_QC
 b_QC:Binds K t.d_QC ["told", "place", "picks", "n"] []
 g_QC:mg "_law_behind" = some (.ref t.a_QC)
 k_QC:keepIn K (.ref t.a_QC)=true
 f_QL:FunX K "_law_told" "_law_told" V4 t.a_QL t.d_QL
 b_QL:Binds K t.d_QL ["web"] []
 g_QL:mg "_law_told" = some (.ref t.a_QL)
 k_QL:keepIn K (.ref t.a_QL)=true
 f_QT:FunX K "law" "law" XB t.a_QT t.d_QT
 b_QT:Binds K t.d_QT ["script"] []
 g_QT:mg "law" = some (.ref t.a_QT)
 k_QT:keepIn K (.ref t.a_QT)=true
 n_all:mg "all" = none
 n_enumerate:mg "enumerate" = none
 n_isinstance:mg "isinstance" = none
 n_len:mg "len" = none
 n_list:mg "list" = none
 n_max:mg "max" = none
 n_min:mg "min" = none
 n_range:mg "range" = none
 n_reversed:mg "reversed" = none
 n_set:mg "set" = none
 n_sorted:mg "sorted" = none
 n_sum:mg "sum" = none
 n_tuple:mg "tuple" = none
 g_Web:mg "Web" = some (.ref t.c_Web)
 cl_Web:Cls K t.c_Web
 ci_Web:ClsI K t.c_Web
 mk_Web:Mk K t.c_Web t.a_QP
 fl_homes:Qp K ⟨t.c,K⟩ XR "homes"
 fl_ways:Qp K ⟨t.c,K⟩ Xz "ways"
 fl_weights:Qp K ⟨t.c,K⟩ XS "weights"
 me_Web_many:Meth K t.c_Web (Str.ofString "many") t.a_QN
 isi_Web:IsiOk K ⟨t.c,K⟩ (.ref t.c_Web) Ji
 isi_tuple:IsiOk K ⟨t.c,K⟩ (.type "tuple") Qv
end K37
namespace K37
open PySem PySem.W L2 HT
def kP:Params->PySem.W.Frag:=λP=>
 (nat_lit 2,dO .none [] 0) ::
 (nat_lit 3,dO (.type "dict") [de P "__name__" 165 (.str "law_grooveway_k37_a_split_done" 252),de P "__doc__" 166 .none,de P "__package__" 167 .none,de P "__loader__" 168 (.builtin "__main__.__loader__#opaque"),de P "__spec__" 169 .none,de P "__annotations__" 170 (.ref 6),de P "__builtins__" 171 (.ref 4),de P "__file__" 173 (.str "/claim/cut.py" 172),de P "__cached__" 174 .none,de P "kept_ways" 194 (.ref 19),de P "Web" 230 (.ref 41),de P "doubled" 238 (.ref 50),de P "split" 244 (.ref 55),de P "evened" 251 (.ref 62),de P "_law_cell_at" 261 (.ref 69),de P "_law_block" 268 (.ref 76),de P "_law_borne" 274 (.ref 81),de P "_law_web" 280 (.ref 86),de P "_law_named" 292 (.ref 93),de P "_law_handed" 298 (.ref 98),de P "_law_bears" 304 (.ref 103),de P "_law_come_to" 315 (.ref 110),de P "_law_tied" 323 (.ref 117),de P "_law_picks" 329 (.ref 122),de P "_law_place" 335 (.ref 127),de P "_law_behind" 341 (.ref 132),de P "_law_told" 348 (.ref 139),de P "law" 354 (.ref 144)] 28) ::
 (nat_lit 18,c3 "kept_ways" "kept_ways" 189 2 1 3 15 16 .none .none 17 192 193) ::
 (nat_lit 19,f3 "kept_ways" "kept_ways" X6 "grooveway.web" 187 18) ::
 (nat_lit 30,c3 "__init__" "Web.__init__" 207 8 4 3 27 28 .none .none 29 210 211) ::
 (nat_lit 31,f3 "__init__" "Web.__init__" Vl "grooveway.web" 187 30) ::
 (nat_lit 37,c3 "many" "Web.many" 213 13 1 3 32 33 (.ref 34) (.ref 35) 36 217 218) ::
 (nat_lit 38,f3 "many" "Web.many" VW "grooveway.web" 187 37) ::
 (nat_lit 40,dO (.type "dict") [de P "__module__" 202 (.str "grooveway.web" 187),de P "__firstlineno__" 206 (.int 6 205),de P "__init__" 212 (.ref 31),de P "many" 219 (.ref 38),de P "__static_attributes__" 223 (.ref 39),de P "__dict__" 225 (.ref 42),de P "__weakref__" 227 (.ref 43),de P "__doc__" 228 .none] 4) ::
 (nat_lit 41,⟨(.type "type"),none,.cls ⟨"Web",[(.type "object")],[(.ref 41),(.type "object")],40, "Web",true,[],[],false,none,false⟩,#[none,none,some (.str "Web" 195),some (.str "Web" 203),some (.builtin "object.__new__"),some (.bool true)]⟩) ::
 (nat_lit 42,⟨(.type "getset_descriptor"),none,.fields #[(.str "__dict__" 224),(.ref 41),(.builtin "function.__dict__"),(.builtin "function.__dict__#set")],#[]⟩) ::
 (nat_lit 43,⟨(.type "getset_descriptor"),none,.fields #[(.str "__weakref__" 226),(.ref 41),(.builtin "ExceptionGroup.__weakref__"),.none],#[]⟩) ::
 (nat_lit 49,c3 "doubled" "doubled" 233 16 3 3 46 47 .none .none 48 236 237) ::
 (nat_lit 50,f3 "doubled" "doubled" Vm "grooveway.split" 231 49) ::
 (nat_lit 54,c3 "split" "split" 239 25 4 3 51 52 .none .none 53 242 243) ::
 (nat_lit 55,f3 "split" "split" XA "grooveway.split" 231 54) ::
 (nat_lit 61,c3 "evened" "evened" 245 37 1 3 56 57 (.ref 58) (.ref 59) 60 249 250) ::
 (nat_lit 62,f3 "evened" "evened" VY "grooveway.split" 231 61) ::
 (nat_lit 68,c3 "_law_cell_at" "_law_cell_at" 254 40 2 3 63 64 (.ref 65) (.ref 66) 67 259 260) ::
 (nat_lit 69,f3 "_law_cell_at" "_law_cell_at" VZ "law_grooveway_k37_a_split_done" 252 68) ::
 (nat_lit 75,c3 "_law_block" "_law_block" 262 44 1 3 70 71 (.ref 72) (.ref 73) 74 266 267) ::
 (nat_lit 76,f3 "_law_block" "_law_block" V0 "law_grooveway_k37_a_split_done" 252 75) ::
 (nat_lit 80,c3 "_law_borne" "_law_borne" 269 46 4 3 77 78 .none .none 79 272 273) ::
 (nat_lit 81,f3 "_law_borne" "_law_borne" Vn "law_grooveway_k37_a_split_done" 252 80) ::
 (nat_lit 85,c3 "_law_web" "_law_web" 275 48 3 3 82 83 .none .none 84 278 279) ::
 (nat_lit 86,f3 "_law_web" "_law_web" XT "law_grooveway_k37_a_split_done" 252 85) ::
 (nat_lit 92,c3 "_law_named" "_law_named" 281 66 2 3 87 88 (.ref 89) (.ref 90) 91 290 291) ::
 (nat_lit 93,f3 "_law_named" "_law_named" V1 "law_grooveway_k37_a_split_done" 252 92) ::
 (nat_lit 97,c3 "_law_handed" "_law_handed" 293 75 2 3 94 95 .none .none 96 296 297) ::
 (nat_lit 98,f3 "_law_handed" "_law_handed" Vo "law_grooveway_k37_a_split_done" 252 97) ::
 (nat_lit 102,c3 "_law_bears" "_law_bears" 299 85 2 3 99 100 .none .none 101 302 303) ::
 (nat_lit 103,f3 "_law_bears" "_law_bears" Vp "law_grooveway_k37_a_split_done" 252 102) ::
 (nat_lit 109,c3 "_law_come_to" "_law_come_to" 305 91 2 3 104 105 (.ref 106) (.ref 107) 108 313 314) ::
 (nat_lit 110,f3 "_law_come_to" "_law_come_to" V2 "law_grooveway_k37_a_split_done" 252 109) ::
 (nat_lit 116,c3 "_law_tied" "_law_tied" 316 100 1 3 111 112 (.ref 113) (.ref 114) 115 321 322) ::
 (nat_lit 117,f3 "_law_tied" "_law_tied" V3 "law_grooveway_k37_a_split_done" 252 116) ::
 (nat_lit 121,c3 "_law_picks" "_law_picks" 324 105 4 3 118 119 .none .none 120 327 328) ::
 (nat_lit 122,f3 "_law_picks" "_law_picks" X7 "law_grooveway_k37_a_split_done" 252 121) ::
 (nat_lit 126,c3 "_law_place" "_law_place" 330 116 2 3 123 124 .none .none 125 333 334) ::
 (nat_lit 127,f3 "_law_place" "_law_place" Vq "law_grooveway_k37_a_split_done" 252 126) ::
 (nat_lit 131,c3 "_law_behind" "_law_behind" 336 122 4 3 128 129 .none .none 130 339 340) ::
 (nat_lit 132,f3 "_law_behind" "_law_behind" Xr "law_grooveway_k37_a_split_done" 252 131) ::
 (nat_lit 138,c3 "_law_told" "_law_told" 342 139 1 3 133 134 (.ref 135) (.ref 136) 137 346 347) ::
 (nat_lit 139,f3 "_law_told" "_law_told" V4 "law_grooveway_k37_a_split_done" 252 138) ::
 (nat_lit 143,c3 "law" "law" 349 141 1 3 140 141 .none .none 142 352 353) ::
 (nat_lit 144,f3 "law" "law" XB "law_grooveway_k37_a_split_done" 252 143)::[]
set_option maxHeartbeats 0 in
theorem Zkx:met PySem.Challenge.pw_grooveway_k37_a_split_done=true:=by k_qdec
set_option maxHeartbeats 0 in
theorem Zky:met kP=true:=by k_qdec
set_option maxHeartbeats 0 in
theorem left:LeftO PySem.Challenge.pw_grooveway_k37_a_split_done (view PySem.Challenge.pw_grooveway_k37_a_split_done [1,2,4,5,6,8,9,10,11,12,13,14,15,16,17,18,19,20,21]) [] (λs=>xlAt (view PySem.Challenge.pw_grooveway_k37_a_split_done [1,2,4,5,6,8,9,10,11,12,13,14,15,16,17,18,19,20,21]) [] s&&recOk PySem.Challenge.rw_grooveway_k37_a_split_done.row.toRowW.records s) (λs=>([2,3,18,19,30,31,37,38,40,41,42,43,49,50,54,55,61,62,68,69,75,76,80,81,85,86,92,93,97,98,102,103,109,110,116,117,121,122,126,127,131,132,138,139,143,144]:List Addr).map s.heap.get?) (λw=>(kP w.params).map λp=>some p.2) 1682:=
 HT.left_of rfl rfl (λ_=>rfl) λw=>by
  have _:=Zkx;have _:=Zky;rewrite [PySem.W.Fast.te15451023451921215919,PySem.W.Fast.te16046115557913945207,PySem.W.Fast.te5923862056798008813,PySem.W.Fast.te4187177175401517315,PySem.W.Fast.te6613529449190102663,PySem.W.Fast.te10156331382660048174,PySem.W.Fast.te11892475500146522536,PySem.W.Fast.te14364793385576792824]
  kernel_rfl
theorem kP_as:∀P,([2,3,18,19,30,31,37,38,40,41,42,43,49,50,54,55,61,62,68,69,75,76,80,81,85,86,92,93,97,98,102,103,109,110,116,117,121,122,126,127,131,132,138,139,143,144]:List Addr)=(kP P).map (·.1):=λ_=>by kernel_rfl
end K37
namespace K37
open PySem PySem.Spec PyProof.Rows L2 DL
theorem nd0:List.Nodup (["way"]:List Str):=by decide +kernel
theorem nd1:List.Nodup (["own"]:List Str):=by decide +kernel
theorem nd2:List.Nodup (["ways", "place", "new", "told", "way"]:List Str):=by decide +kernel
theorem nd3:List.Nodup (["web", "n", "place", "picks", "own", "picked", "others", "share", "new", "ways", "weights", "homes"]:List Str):=by decide +kernel
theorem nd4:List.Nodup (["number", "way", "picks"]:List Str):=by decide +kernel
theorem nd5:List.Nodup (["way", "web"]:List Str):=by decide +kernel
theorem nd6:List.Nodup (["each", "place", "new"]:List Str):=by decide +kernel
theorem nd7:List.Nodup (["to", "weights"]:List Str):=by decide +kernel
theorem nd8:List.Nodup (["row", "twice", "named", "k", "number", "beside"]:List Str):=by decide +kernel
theorem nd9:List.Nodup (["script", "at", "n", "many", "weights", "homes", "rows", "k", "place", "to", "ways"]:List Str):=by decide +kernel
theorem Zlq:List.Nodup (["k", "script", "at"]:List Str):=by decide +kernel
theorem ZlO:List.Nodup (["k", "many"]:List Str):=by decide +kernel
theorem Ju:List.Nodup (["script", "told", "parts", "web", "row", "part"]:List Str):=by decide +kernel
theorem Zlr:List.Nodup (["row"]:List Str):=by decide +kernel
theorem Jv:List.Nodup (["told", "n", "homes", "weights", "ways", "place"]:List Str):=by decide +kernel
theorem ZjP:List.Nodup (["way", "weights"]:List Str):=by decide +kernel
theorem ZjQ:List.Nodup (["ways", "place", "seen", "ahead", "way"]:List Str):=by decide +kernel
theorem ZlP:List.Nodup (["told", "place"]:List Str):=by decide +kernel
theorem UC:List.Nodup (["weights", "ways", "place", "n", "lesser", "row", "begin", "total", "end"]:List Str):=by decide +kernel
theorem ZlQ:List.Nodup (["k", "weights", "ways", "place"]:List Str):=by decide +kernel
theorem ZlR:List.Nodup (["k", "lesser"]:List Str):=by decide +kernel
theorem Zls:List.Nodup (["weights", "ways", "place", "lesser"]:List Str):=by decide +kernel
theorem XC:List.Nodup (["told", "place", "picks", "n", "homes", "weights", "ways", "mine", "rest", "share", "rows", "done", "row", "twice", "block", "to", "turned"]:List Str):=by decide +kernel
theorem ZlS:List.Nodup (["k", "ways", "place"]:List Str):=by decide +kernel
theorem ZlT:List.Nodup (["k", "ways", "place", "picks"]:List Str):=by decide +kernel
theorem ZlU:List.Nodup (["k", "place", "weights", "share"]:List Str):=by decide +kernel
theorem XD:List.Nodup (["script", "n", "told", "homes", "weights", "ways", "web", "flat", "place", "picks", "kept", "found", "due", "row"]:List Str):=by decide +kernel
theorem ZlV:List.Nodup (["home"]:List Str):=by decide +kernel
section
variable{P:Program}{w:World}{K:PySem.W.Frag}{mg:Str->Option Value}{base:Heap}{t:Adr}
theorem Zkz(T:Txt K mg t):FnOk P w K mg base CX0 1 t.a_QM t.d_QM ["ways"] (spD ⟨t.c,K⟩ 1 UB):=by
 refine YH (φ:=f_QM) T.f_QM Zkd (by conv=>lhs;whnf) (by conv=>lhs;whnf) (λcdv A outer s H E hr => ?_) rfl rfl;refine⟨_,(Zp (YO (PW.pt (QI (QH (ZT (Zdq (K:=K)) (by rfl) T.n_isinstance boot_isinstance (Zd (pv 0) (Zd (ZdD (v:=.ty "tuple") (by rfl) T.n_tuple boot_tuple rfl) Zj)))) (JN (QH (ZT (Zj2 (K:=K)) (by rfl) T.n_all boot_all (Zd (Xh (by rfl) (CompSc.mk' (tn:=["way"]) (cn:=[]) (js:=[]) (osc:=defScope X6) (oN:=["ways"]) (by rfl) (by rfl) (by rfl) (by decide +kernel)) (Yt (K:=K) (pv 0)) (λC s₂ H₂ fp=>ZJ (i:=0) nd0) (λC s₂ H₂ fp=>YQ) (λC s₂ H₂ fp=>(ZT (Zdq (K:=K)) (by rfl) T.n_isinstance boot_isinstance (Zd (pv 0) (Zd (ZdD (v:=.ty "tuple") (by rfl) T.n_tuple boot_tuple rfl) Zj))))) Zj)))))) (ZG (Z0 (pv 0))) YN)
 (ZG (Z0 (Yq (Xj (K:=K)) (by rfl) T.n_tuple boot_tuple (Zd (Xh (by rfl) (CompSc.mk' (tn:=["way"]) (cn:=[]) (js:=[]) (osc:=defScope X6) (oN:=["ways"]) (by rfl) (by rfl) (by rfl) (by decide +kernel)) (Yt (K:=K) (pv 0)) (λC s₂ H₂ fp=>ZJ (i:=0) nd0) (λC s₂ H₂ fp=>YQ) (λC s₂ H₂ fp=>(Yq (Xj (K:=K)) (by rfl) T.n_tuple boot_tuple (Zd (pv 0) Zj)))) Zj))))),[],?_⟩
 unfold f_QM;exact(Zz (YY (QV (UU (Zdr (λ_ h=>h) T.isi_tuple (Zc 0))) (UU (ZZ Zjc (Ze (VF.cl (Yw (by rfl) (YS (Zc 0)) (Z2 0) YR (Zdr (λ_ h=>h) T.isi_tuple (Zc 0)))) Zk)))) (Z4 (Zc 0)) YX)
 (Z4 (Xl (Ze (VF.cl (Yw (by rfl) (YS (Zc 0)) (Z2 0) YR (Xl (Ze (Zc 0) Zk)))) Zk))))
theorem ZgX(T:Txt K mg t):FnOk P w K mg base CX0 2 t.a_QP t.d_QP ["self", "homes", "weights", "ways"] (spI ⟨t.c,K⟩ 4 VU):=by
 have G_QM:=(Zkz (P:=P) (w:=w) (base:=base) T).mono (k:=1) (by decide);refine Zj9 (φ:=f_QP) T.f_QP Zke (by conv=>lhs;whnf) (by conv=>lhs;whnf) (λcdv A outer s H E self hr => ?_) rfl rfl;refine⟨_,(Zp (J4 (pv 0) (Yq (Xj (K:=K)) (by rfl) T.n_tuple boot_tuple (Zd (pv 1) Zj)) (by rfl))
 (Zp (J4 (pv 0) (Yq (Xj (K:=K)) (by rfl) T.n_tuple boot_tuple (Zd (pv 2) Zj)) (by rfl))
 (ZG (J4 (pv 0) (Yq (Xj (K:=K)) (by rfl) T.n_tuple boot_tuple (Zd (Xh (by rfl) (CompSc.mk' (tn:=["own"]) (cn:=[]) (js:=[]) (osc:=defScope Vl) (oN:=["self", "homes", "weights", "ways"]) (by rfl) (by rfl) (by rfl) (by decide +kernel)) (Yt (K:=K) (pv 3)) (λC s₂ H₂ fp=>ZJ (i:=0) nd1) (λC s₂ H₂ fp=>YQ) (λC s₂ H₂ fp=>(Yd (G_QM) hr (by rfl) T.g_QM T.k_QM T.b_QM .nil Z3 (Zd (pv 0) Zj)))) Zj)) (by rfl))))),?_⟩
 unfold f_QP;exact(Zz (Zds 0 (by rfl) T.fl_homes (Xl (Ze (Zc 1) Zk)))
 (Zz (Zds 0 (by rfl) T.fl_weights (Xl (Ze (Zc 2) Zk)))
 (Zds 0 (by rfl) T.fl_ways (Xl (Ze (VF.cl (Yw (by rfl) (YS (Zc 3)) (Z2 0) YR (Ye [] (by rfl) (Ze (Zc 0) Zk)))) Zk)))))
theorem ZgY(T:Txt K mg t):FnOk P w K mg base CX0 1 t.a_QN t.d_QN ["self"] (spD ⟨t.c,K⟩ 1 Jj):=by
 refine YH (φ:=f_QN) T.f_QN Zkf (by conv=>lhs;whnf) (by conv=>lhs;whnf) (λcdv A outer s H E hr => ?_) rfl rfl;refine⟨_,(ZG (Z0 (ZT (YA (K:=K)) (by rfl) T.n_len boot_len (Zd (Xi (K:=K) (pv 0)) Zj)))),[],?_⟩;unfold f_QN;exact(Z4 (ZZ YB (Ze (Xn T.fl_homes (Zc 0)) Zk)))
theorem ZkA(T:Txt K mg t):FnOk P w K mg base CX0 1 t.a_QQ t.d_QQ ["ways", "place", "new"] (spD ⟨t.c,K⟩ 3 Jk):=by
 refine YH (φ:=f_QQ) T.f_QQ Zkg (by conv=>lhs;whnf) (by conv=>lhs;whnf) (λcdv A outer s H E hr => ?_) rfl rfl;refine⟨_,(Zp (YO (Z7 (Za0 (K:=K)) (pv 1) (Xh (by rfl) (CompSc.mk' (tn:=["way"]) (cn:=[]) (js:=[]) (osc:=defScope Vm) (oN:=["ways", "place", "new", "told", "way"]) (by rfl) (by rfl) (by rfl) (by decide +kernel)) (Yt (K:=K) (pv 0)) (λC s₂ H₂ fp=>ZJ (i:=0) nd0) (λC s₂ H₂ fp=>YQ) (λC s₂ H₂ fp=>(Zv (Zw (K:=K)) (pv 0) Zx (λ_ _=>rfl)))) (by rfl)) (ZG (Z0 (pv 0))) YN)
 (Zp (ZR (i:=3) nd2 (by rfl) (by first|exact Or.inl rfl|exact Or.inr rfl) (Y2 Zj))
 (Zp ((Y0 PassesOwn.never (by rfl) (Yt (K:=K) (pv 0)) (ZJ (i:=4) nd2) (Zp (XF (Vf (K:=K) PySem.F.plainAttrs_list PySem.F.slot_list_append PySem.F.type_list_append Vd (pv 3) (Zd (pv 4) Zj)))
 (ZG (YO (Z7 (Uc (cA:=⟨t.c,K⟩) (hr.units)) (Zv (Zw (K:=K)) (pv 4) Zx (λ_ _=>rfl)) (pv 1) (Yb _)) (ZG (XF (Vf (K:=K) PySem.F.plainAttrs_list PySem.F.slot_list_append PySem.F.type_list_append Vd (pv 3) (Zd (Vv (Zd (Zv (Zw (K:=K)) (pv 4) Zx (λ_ _=>rfl)) (Zd (pv 2) Zj))) Zj)))) YN)))))
 (ZG (Z0 (Yq (Xj (K:=K)) (by rfl) T.n_tuple boot_tuple (Zd (pv 3) Zj))))))),[],?_⟩
 unfold f_QQ;exact(Zz (YY (Z8 (Zh QU (Zc 1) (VF.cl (Yw (by rfl) (YS (Zc 0)) (Z2 0) YR (Zh Zy (Zc 0) (Zo (d:=(.int 1)) (by rfl) (by rfl))))))) (Z4 (Zc 0)) YX)
 (Zz (show VS _ _ [3] _ _ _ _ from(VB 3 (Xb Zk)))
 (Zz (X2 (YS (Zc 0)) (Z2 4) (Zz (Uh 3 (by rfl) (Zc 4))
 (YY (Z8 (Zh Ud (Zh Zy (Zc 4) (Zo (d:=(.int 1)) (by rfl) (by rfl))) (Zc 1))) (Uh 3 (by rfl) (Vy (Ze (Zh Zy (Zc 4) (Zo (d:=(.int 0)) (by rfl) (by rfl))) (Ze (Zc 2) Zk)))) YX)))
 (VS.frz (ow1:=[]) 3 (Z4 (Xl (Ze (Zc 3) Zk)))))))
theorem ZkB(T:Txt K mg t):FnOk P w K mg base CX0 4 t.a_QS t.d_QS ["web", "n", "place", "picks"] (spD ⟨t.c,K⟩ 4 Qw):=by
 have GM_QP:=(ZgX (P:=P) (w:=w) (base:=base) T).mono (k:=2) (by decide);have G_QN:=(ZgY (P:=P) (w:=w) (base:=base) T).mono (k:=3) (by decide);have G_QQ:=(ZkA (P:=P) (w:=w) (base:=base) T).mono (k:=3) (by decide);refine YH (φ:=f_QS) T.f_QS Zkh (by conv=>lhs;whnf) (by conv=>lhs;whnf) (λcdv A outer s H E hr => ?_) rfl rfl;refine⟨_,(Zp (ZR (i:=4) nd3 (by rfl) (by first|exact Or.inl rfl|exact Or.inr rfl) (Zv (Zw (K:=K)) (Xi (K:=K) (pv 0)) (pv 2) (λ_ _=>rfl)))
 (Zp (VH (i:=5) nd3 (by rfl) (by rfl) (by rfl) (CompSc.mk' (tn:=["number", "way"]) (cn:=["picks"]) (js:=[3]) (osc:=defScope XA) (oN:=["web", "n", "place", "picks", "own", "picked", "others", "share", "new", "ways", "weights", "homes"]) (by rfl) (by rfl) (by rfl) (by decide +kernel)) (ZcB (K:=K) (by rfl) T.n_enumerate (pv 4)) (λC s₂ H₂ fp=>US (K:=K) (n:=2) (Y8 (ZJ (i:=0) nd4) (Y8 (ZJ (i:=1) nd4) UL))) (λC s₂ H₂ fp=>(Qj (Z7 (Zj1 (K:=K)) (pv 0) (pv 2) (by rfl)))) (λC s₂ H₂ fp=>(pv 1)))
 (Zp (VH (i:=6) nd3 (by rfl) (by rfl) (by rfl) (CompSc.mk' (tn:=["number", "way"]) (cn:=["picks"]) (js:=[3]) (osc:=defScope XA) (oN:=["web", "n", "place", "picks", "own", "picked", "others", "share", "new", "ways", "weights", "homes"]) (by rfl) (by rfl) (by rfl) (by decide +kernel)) (ZcB (K:=K) (by rfl) T.n_enumerate (pv 4)) (λC s₂ H₂ fp=>US (K:=K) (n:=2) (Y8 (ZJ (i:=0) nd4) (Y8 (ZJ (i:=1) nd4) UL))) (λC s₂ H₂ fp=>(Qj (Z7 (Za0 (K:=K)) (pv 0) (pv 2) (by rfl)))) (λC s₂ H₂ fp=>(pv 1)))
 (Zp (ZR (i:=7) nd3 (by rfl) (by first|exact Or.inl rfl|exact Or.inr rfl) (ZD VL (ZT (Q4 (K:=K)) (by rfl) T.n_sum boot_sum (Zd (Xh (by rfl) (CompSc.mk' (tn:=["way"]) (cn:=["web"]) (js:=[0]) (osc:=defScope XA) (oN:=["web", "n", "place", "picks", "own", "picked", "others", "share", "new", "ways", "weights", "homes"]) (by rfl) (by rfl) (by rfl) (by decide +kernel)) (Yt (K:=K) (pv 5)) (λC s₂ H₂ fp=>ZJ (i:=0) nd5) (λC s₂ H₂ fp=>YQ) (λC s₂ H₂ fp=>(Zv (Zw (K:=K)) (Xi (K:=K) (pv 1)) (Zv (Zw (K:=K)) (pv 0) Zx (λ_ _=>rfl)) (λ_ _=>rfl)))) Zj)) (pv 1)))
 (Zp (ZR (i:=8) nd3 (by rfl) (by first|exact Or.inl rfl|exact Or.inr rfl) (Zav (cA:=⟨t.c,K⟩) (tab:=Vk) (m:="many") ⟨⟨t.a_QN,t.d_QN,["self"],T.cl_Web,T.me_Web_many,G_QN,T.b_QN⟩,trivial⟩ hr (pv 0)))
 (Zp (ZR (i:=9) nd3 (by rfl) (by first|exact Or.inl rfl|exact Or.inr rfl) (ZD (Yj (K:=K)) (Yq (Uk (K:=K)) (by rfl) T.n_list boot_list (Zd (Xi (K:=K) (pv 0)) Zj)) (Y2 (Zd (pv 6) Zj))))
 (Zp (UM (pv 5) (JS (pv 9) (pv 2) J9))
 (Zp (ZR (i:=10) nd3 (by rfl) (by first|exact Or.inl rfl|exact Or.inr rfl) (ZD (Yj (K:=K)) (Yq (Uk (K:=K)) (by rfl) T.n_list boot_list (Zd (Xi (K:=K) (pv 0)) Zj)) (Y2 (Zd (ZD QL (Zv (Zw (K:=K)) (Xi (K:=K) (pv 0)) (pv 2) (λ_ _=>rfl)) (pv 7)) Zj))))
 (Zp (UM (pv 7) (JS (pv 10) (pv 2) J9))
 (Zp (ZR (i:=11) nd3 (by rfl) (by first|exact Or.inl rfl|exact Or.inr rfl) (ZD (Yj (K:=K)) (Yq (Uk (K:=K)) (by rfl) T.n_list boot_list (Zd (Xi (K:=K) (pv 0)) Zj)) (Y2 (Zd (Zv (Zw (K:=K)) (Xi (K:=K) (pv 0)) (pv 2) (λ_ _=>rfl)) Zj))))
 (ZG (Z0 (QN T.mk_Web (GM_QP) hr (by rfl) T.g_Web T.b_QP .nil Z3 (Zd (pv 11) (Zd (pv 10) (Zd (Xh (by rfl) (CompSc.mk' (tn:=["each"]) (cn:=["place", "new"]) (js:=[2,8]) (osc:=defScope XA) (oN:=["web", "n", "place", "picks", "own", "picked", "others", "share", "new", "ways", "weights", "homes"]) (by rfl) (by rfl) (by rfl) (by decide +kernel)) (Yt (K:=K) (pv 9)) (λC s₂ H₂ fp=>ZJ (i:=0) nd6) (λC s₂ H₂ fp=>YQ) (λC s₂ H₂ fp=>(Yd (G_QQ) hr (by rfl) T.g_QQ T.k_QQ T.b_QQ .nil Z3 (Zd (pv 0) (Zd (pv 1) (Zd (pv 2) Zj)))))) Zj)))))))))))))))),[],?_⟩
 unfold f_QS;exact(Zz (show VS _ _ [] _ _ _ _ from(ZX 4 (Zh Zy (Xn T.fl_ways (Zc 0)) (Zc 2))))
 (Zz (show VS _ _ [] _ _ _ _ from(ZX 5 (VF.cl (Yw (by rfl) (ZcC (Zc 4)) (UX (Xc 0 (by rfl) (by rfl) (Xc 1 (by rfl) (by rfl) UW))) (Z8 (Zh QU (Zc 0) (Zc 2))) (Zc 1)))))
 (Zz (show VS _ _ [] _ _ _ _ from(ZX 6 (VF.cl (Yw (by rfl) (ZcC (Zc 4)) (UX (Xc 0 (by rfl) (by rfl) (Xc 1 (by rfl) (by rfl) UW))) (Z8 (Zh QU (Zc 0) (Zc 2))) (Zc 1)))))
 (Zz (show VS _ _ [] _ _ _ _ from(ZX 7 (Zh VN (ZZ Q5 (Ze (VF.cl (Yw (by rfl) (YS (Zc 5)) (Z2 0) YR (Zh Zy (Xn T.fl_weights (Zc 1)) (Zh Zy (Zc 0) (Zo (d:=(.int 1)) (by rfl) (by rfl)))))) Zk)) (Zc 1))))
 (Zz (show VS _ _ [] _ _ _ _ from(ZX 8 (ZbQ (Zc 0) Zk)))
 (Zz (show VS _ _ [9] _ _ _ _ from(VB 9 (U7 (VF.cl (Ul (Or.inl rfl) (Ze (Xn T.fl_ways (Zc 0)) Zk))) (VF.cl (Xb (Ze (Zc 6) Zk))))))
 (Zz (ZbS 9 (by rfl) (Zc 5) (Zc 2))
 (VS.frz (ow1:=[]) 9 (Zz (show VS _ _ [10] _ _ _ _ from(VB 10 (U7 (VF.cl (Ul (Or.inl rfl) (Ze (Xn T.fl_weights (Zc 0)) Zk))) (VF.cl (Xb (Ze (Zh QT (Zh Zy (Xn T.fl_weights (Zc 0)) (Zc 2)) (Zc 7)) Zk))))))
 (Zz (ZbS 10 (by rfl) (Zc 7) (Zc 2))
 (VS.frz (ow1:=[]) 10 (Zz (show VS _ _ [] _ _ _ _ from(ZX 11 (VF.cl (U7 (VF.cl (Ul (Or.inl rfl) (Ze (Xn T.fl_homes (Zc 0)) Zk))) (VF.cl (Xb (Ze (Zh Zy (Xn T.fl_homes (Zc 0)) (Zc 2)) Zk)))))))
 (Z4 (Q3 (c:="Web") [] (by rfl) (Ze (Zc 11) (Ze (Zc 10) (Ze (VF.cl (Yw (by rfl) (YS (Zc 9)) (Z2 0) YR (Ye [] (by rfl) (Ze (Zc 0) (Ze (Zc 1) (Ze (Zc 2) Zk)))))) Zk)))))))))))))))))
theorem ZkC(T:Txt K mg t):FnOk P w K mg base CX0 4 t.a_QR t.d_QR ["web"] (spD ⟨t.c,K⟩ 1 Jl):=by
 have GM_QP:=(ZgX (P:=P) (w:=w) (base:=base) T).mono (k:=2) (by decide);have G_QN:=(ZgY (P:=P) (w:=w) (base:=base) T).mono (k:=3) (by decide);refine YH (φ:=f_QR) T.f_QR Zki (by conv=>lhs;whnf) (by conv=>lhs;whnf) (λcdv A outer s H E hr => ?_) rfl rfl;refine⟨_,(ZG (Z0 (QN T.mk_Web (GM_QP) hr (by rfl) T.g_Web T.b_QP .nil Z3 (Zd (Xi (K:=K) (pv 0)) (Zd (ZD (Q7 (K:=K)) (Y2 (Zd Zx Zj)) (Zav (cA:=⟨t.c,K⟩) (tab:=Vk) (m:="many") ⟨⟨t.a_QN,t.d_QN,["self"],T.cl_Web,T.me_Web_many,G_QN,T.b_QN⟩,trivial⟩ hr (pv 0))) (Zd (Xi (K:=K) (pv 0)) Zj)))))),[],?_⟩
 unfold f_QR;exact(Z4 (Q3 (c:="Web") [] (by rfl) (Ze (Xn T.fl_homes (Zc 0)) (Ze (VF.cl (Zjf (VF.cl (Xb (Ze (Zo (d:=(.int 1)) (by rfl) (by rfl)) Zk))) (ZbQ (Zc 0) Zk))) (Ze (Xn T.fl_ways (Zc 0)) Zk)))))
theorem ZgZ(T:Txt K mg t):FnOk P w K mg base CX0 1 t.a_QA t.d_QA ["script", "k"] (spD ⟨t.c,K⟩ 2 Yx):=by
 refine YH (φ:=f_QA) T.f_QA Zkj (by conv=>lhs;whnf) (by conv=>lhs;whnf) (λcdv A outer s H E hr => ?_) rfl rfl;refine⟨_,(Zp (YO (Z7 UN (pv 1) (ZT (YA (K:=K)) (by rfl) T.n_len boot_len (Zd (pv 0) Zj)) (Yb _)) (ZG (Z0 (Zv (Zw (K:=K)) (pv 0) (pv 1) (λ_ _=>rfl)))) YN)
 (ZG (Z0 Zx))),[],?_⟩
 unfold f_QA;exact(Zz (YY (Z8 (Zh Ue (Zc 1) (ZZ YB (Ze (Zc 0) Zk)))) (Z4 (Zh Zy (Zc 0) (Zc 1))) YX)
 (Z4 (Zo (d:=(.int 0)) (by rfl) (by rfl))))
theorem ZkD(T:Txt K mg t):FnOk P w K mg base CX0 1 t.a_QJ t.d_QJ ["k"] (spD ⟨t.c,K⟩ 1 Jm):=by
 refine YH (φ:=f_QJ) T.f_QJ Zkk (by conv=>lhs;whnf) (by conv=>lhs;whnf) (λcdv A outer s H E hr => ?_) rfl rfl;refine⟨_,(ZG (Z0 (ZD (Yj (K:=K)) (ZD (Yj (K:=K)) (Zv (Zw (K:=K)) (Zdo [97,98,99,100] (by decide +kernel)) (ZD Y1 (ZD VL (pv 0) Zx) Zx) (λ_ _=>rfl)) (Zv (Zw (K:=K)) (Zdo [97,98,99,100] (by decide +kernel)) (ZD Y1 (ZD VL (pv 0) Zx) Zx) (λ_ _=>rfl))) (Zv (Zw (K:=K)) (Zdo [97,98,99,100] (by decide +kernel)) (ZD Y1 (pv 0) Zx) (λ_ _=>rfl))))),[],?_⟩
 unfold f_QJ;exact(Z4 (Zh YI (Zh YI (Zh Zy (Zo (d:=(.str [97,98,99,100])) (by rfl) (by rfl)) (Zh Y5 (Zh VN (Zc 0) (Zo (d:=(.int 16)) (by rfl) (by rfl))) (Zo (d:=(.int 4)) (by rfl) (by rfl)))) (Zh Zy (Zo (d:=(.str [97,98,99,100])) (by rfl) (by rfl)) (Zh Y5 (Zh VN (Zc 0) (Zo (d:=(.int 4)) (by rfl) (by rfl))) (Zo (d:=(.int 4)) (by rfl) (by rfl))))) (Zh Zy (Zo (d:=(.str [97,98,99,100])) (by rfl) (by rfl)) (Zh Y5 (Zc 0) (Zo (d:=(.int 4)) (by rfl) (by rfl))))))
theorem ZkE(T:Txt K mg t):FnOk P w K mg base CX0 1 t.a_QI t.d_QI ["weights", "rows", "place", "n"] (spD ⟨t.c,K⟩ 4 Jn):=by
 refine YH (φ:=f_QI) T.f_QI Zkl (by conv=>lhs;whnf) (by conv=>lhs;whnf) (λcdv A outer s H E hr => ?_) rfl rfl;refine⟨_,(ZG (Z0 (JY ZjW (ZT (Q4 (K:=K)) (by rfl) T.n_sum boot_sum (Zd (Xh (by rfl) (CompSc.mk' (tn:=["to"]) (cn:=["weights"]) (js:=[0]) (osc:=defScope Vn) (oN:=["weights", "rows", "place", "n"]) (by rfl) (by rfl) (by rfl) (by decide +kernel)) (Yt (K:=K) (Zv (Zw (K:=K)) (pv 1) (pv 2) (λ_ _=>rfl))) (λC s₂ H₂ fp=>ZJ (i:=0) nd7) (λC s₂ H₂ fp=>YQ) (λC s₂ H₂ fp=>(Zv (Zw (K:=K)) (pv 1) (pv 0) (λ_ _=>rfl)))) Zj)) (ZD (Q7 (K:=K)) (pv 3) (Zv (Zw (K:=K)) (pv 0) (pv 2) (λ_ _=>rfl))) (Yb _)))),[],?_⟩
 unfold f_QI;exact(Z4 (Zh Ue (ZZ Q5 (Ze (VF.cl (Yw (by rfl) (YS (Zh Zy (Zc 1) (Zc 2))) (Z2 0) YR (Zh Zy (Zc 1) (Zc 0)))) Zk)) (Zh ZbR (Zc 3) (Zh Zy (Zc 0) (Zc 2)))))
theorem ZkF(T:Txt K mg t):FnOk P w K mg base CX0 2 t.a_QG t.d_QG ["row", "twice"] (spD ⟨t.c,K⟩ 2 Jo):=by
 have G_QJ:=(ZkD (P:=P) (w:=w) (base:=base) T).mono (k:=1) (by decide);refine YH (φ:=f_QG) T.f_QG Zkm (by conv=>lhs;whnf) (by conv=>lhs;whnf) (λcdv A outer s H E hr => ?_) rfl rfl;refine⟨_,(Zp (ZR (i:=2) nd8 (by rfl) (by first|exact Or.inl rfl|exact Or.inr rfl) (Y2 Zj))
 (Zp ((Y0 PassesOwn.never (by rfl) (Xu (by rfl) T.n_range (Zd (ZT (YA (K:=K)) (by rfl) T.n_len boot_len (Zd (pv 0) Zj)) Zj)) (ZJ (i:=3) nd8) (Zp (ZR (i:=4) nd8 (by rfl) (by first|exact Or.inl rfl|exact Or.inr rfl) (ZD (Yj (K:=K)) Zx (pv 3)))
 (Zp (ZR (i:=5) nd8 (by rfl) (by first|exact Or.inl rfl|exact Or.inr rfl) (ZD QL (ZD (Yj (K:=K)) (pv 3) Zx) (ZD (Q7 (K:=K)) (ZD Y1 (pv 3) Zx) Zx)))
 (Zp (YO (PW.pt (QI (Z7 (Uc (cA:=⟨t.c,K⟩) (hr.units)) (pv 1) Zx (Yb _)) (QI (Z7 UN (pv 5) (ZT (YA (K:=K)) (by rfl) T.n_len boot_len (Zd (pv 0) Zj)) (Yb _)) (JN (Z7 (XZ (cA:=⟨t.c,K⟩) (hr.units)) (Zv (Zw (K:=K)) (pv 0) (pv 5) (λ_ _=>rfl)) (Zv (Zw (K:=K)) (pv 0) (pv 3) (λ_ _=>rfl)) (Yb _)))))) (ZG (ZR (i:=4) nd8 (by rfl) (by first|exact Or.inl rfl|exact Or.inr rfl) (ZD VL (pv 3) Zx))) YN)
 (ZG (XF (Vf (K:=K) PySem.F.plainAttrs_list PySem.F.slot_list_append PySem.F.type_list_append Vd (pv 2) (Zd (Vv (Zd (Yd (G_QJ) hr (by rfl) T.g_QJ T.k_QJ T.b_QJ .nil Z3 (Zd (pv 4) Zj)) (Zd (Zv (Zw (K:=K)) (pv 0) (pv 3) (λ_ _=>rfl)) Zj))) Zj)))))))))
 (ZG (Z0 (Yq (Xj (K:=K)) (by rfl) T.n_tuple boot_tuple (Zd (pv 2) Zj)))))),[],?_⟩
 unfold f_QG;exact(Zz (show VS _ _ [2] _ _ _ _ from(VB 2 (Xb Zk)))
 (Zz (X2 (XI (Ze (ZZ YB (Ze (Zc 0) Zk)) Zk) Xm) (Z2 3) (Zz (show VS _ _ [2] _ _ _ _ from(ZX 4 (Zh YI (Zo (d:=(.int 19)) (by rfl) (by rfl)) (Zc 3))))
 (Zz (show VS _ _ [2] _ _ _ _ from(ZX 5 (Zh QT (Zh YI (Zc 3) (Zo (d:=(.int 1)) (by rfl) (by rfl))) (Zh ZbR (Zh Y5 (Zc 3) (Zo (d:=(.int 2)) (by rfl) (by rfl))) (Zo (d:=(.int 2)) (by rfl) (by rfl))))))
 (Zz (YY (QV (Z8 (Zh Ud (Zc 1) (Zo (d:=(.int 1)) (by rfl) (by rfl)))) (QV (Z8 (Zh Ue (Zc 5) (ZZ YB (Ze (Zc 0) Zk)))) (Z8 (Zh X0 (Zh Zy (Zc 0) (Zc 5)) (Zh Zy (Zc 0) (Zc 3)))))) (show VS _ _ [2] _ _ _ _ from(ZX 4 (Zh VN (Zc 3) (Zo (d:=(.int 2)) (by rfl) (by rfl))))) YX)
 (Uh 2 (by rfl) (Vy (Ze (Ye [] (by rfl) (Ze (Zc 4) Zk)) (Ze (Zh Zy (Zc 0) (Zc 3)) Zk))))))))
 (VS.frz (ow1:=[]) 2 (Z4 (Xl (Ze (Zc 2) Zk))))))
theorem ZkG(T:Txt K mg t):FnOk P w K mg base CX0 3 t.a_QO t.d_QO ["script", "at", "n"] (spD ⟨t.c,K⟩ 3 Qx):=by
 have G_QI:=(ZkE (P:=P) (w:=w) (base:=base) T).mono (k:=2) (by decide);have G_QA:=(ZgZ (P:=P) (w:=w) (base:=base) T).mono (k:=2) (by decide);have G_QG:=(ZkF (P:=P) (w:=w) (base:=base) T).mono (k:=2) (by decide);refine YH (φ:=f_QO) T.f_QO Zkn (by conv=>lhs;whnf) (by conv=>lhs;whnf) (λcdv A outer s H E hr => ?_) rfl rfl;refine⟨_,(Zp (ZR (i:=3) nd9 (by rfl) (by first|exact Or.inl rfl|exact Or.inr rfl) (ZD (Yj (K:=K)) Zx (ZD Y1 (Yd (G_QA) hr (by rfl) T.g_QA T.k_QA T.b_QA .nil Z3 (Zd (pv 0) (Zd (pv 1) Zj))) Zx)))
 (Zp (VH (i:=4) nd9 (by rfl) (by rfl) (by rfl) (CompSc.mk' (tn:=["k"]) (cn:=["script", "at"]) (js:=[0,1]) (osc:=defScope XT) (oN:=["script", "at", "n", "many", "weights", "homes", "rows", "k", "place", "to", "ways"]) (by rfl) (by rfl) (by rfl) (by decide +kernel)) (Xu (by rfl) T.n_range (Zd (pv 3) Zj)) (λC s₂ H₂ fp=>ZJ (i:=0) Zlq) (λC s₂ H₂ fp=>YQ) (λC s₂ H₂ fp=>(ZD (Yj (K:=K)) Zx (ZD Y1 (Yd (G_QA) hr (by rfl) T.g_QA T.k_QA T.b_QA .nil Z3 (Zd (pv 1) (Zd (ZD (Yj (K:=K)) (ZD (Yj (K:=K)) (pv 2) Zx) (pv 0)) Zj))) Zx))))
 (Zp (VH (i:=5) nd9 (by rfl) (by rfl) (by rfl) (CompSc.mk' (tn:=["k"]) (cn:=["script", "at"]) (js:=[0,1]) (osc:=defScope XT) (oN:=["script", "at", "n", "many", "weights", "homes", "rows", "k", "place", "to", "ways"]) (by rfl) (by rfl) (by rfl) (by decide +kernel)) (Xu (by rfl) T.n_range (Zd (pv 3) Zj)) (λC s₂ H₂ fp=>ZJ (i:=0) Zlq) (λC s₂ H₂ fp=>YQ) (λC s₂ H₂ fp=>(ZD Y1 (ZD VL (Yd (G_QA) hr (by rfl) T.g_QA T.k_QA T.b_QA .nil Z3 (Zd (pv 1) (Zd (ZD (Yj (K:=K)) (ZD (Yj (K:=K)) (pv 2) Zx) (pv 0)) Zj))) Zx) Zx)))
 (Zp (VH (i:=6) nd9 (by rfl) (by rfl) (by rfl) (CompSc.mk' (tn:=["k"]) (cn:=["many"]) (js:=[3]) (osc:=defScope XT) (oN:=["script", "at", "n", "many", "weights", "homes", "rows", "k", "place", "to", "ways"]) (by rfl) (by rfl) (by rfl) (by decide +kernel)) (Xu (by rfl) T.n_range (Zd (pv 3) Zj)) (λC s₂ H₂ fp=>ZJ (i:=0) ZlO) (λC s₂ H₂ fp=>YQ) (λC s₂ H₂ fp=>(Y2 (Zd (ZD Y1 (ZD (Yj (K:=K)) (pv 0) Zx) (pv 1)) Zj))))
 (Zp (Y0 PassesOwn.never (by rfl) (Zbe (by rfl) T.n_range (Zd (ZD (Yj (K:=K)) (pv 1) Zx) (Zd (ZT (YA (K:=K)) (by rfl) T.n_len boot_len (Zd (pv 0) Zj)) Zj))) (ZJ (i:=7) nd9) (Zp (ZR (i:=8) nd9 (by rfl) (by first|exact Or.inl rfl|exact Or.inr rfl) (ZD Y1 (ZD VL (Zv (Zw (K:=K)) (pv 0) (pv 7) (λ_ _=>rfl)) Zx) (pv 3)))
 (ZG (YO (Z7 UN (ZT (YA (K:=K)) (by rfl) T.n_len boot_len (Zd (Zv (Zw (K:=K)) (pv 6) (pv 8) (λ_ _=>rfl)) Zj)) Zx (Yb _)) (ZG (XF (Vf (K:=K) PySem.F.plainAttrs_list PySem.F.slot_list_append PySem.F.type_list_append Vd (Zv (Zw (K:=K)) (pv 6) (pv 8) (λ_ _=>rfl)) (Zd (ZD Y1 (Zv (Zw (K:=K)) (pv 0) (pv 7) (λ_ _=>rfl)) (pv 3)) Zj)))) YN))))
 (Zp (Y0 PassesOwn.never (by rfl) (Xu (by rfl) T.n_range (Zd (pv 3) Zj)) (ZJ (i:=8) nd9) (Zp (ZR (i:=9) nd9 (by rfl) (by first|exact Or.inl rfl|exact Or.inr rfl) (ZD Y1 (ZD VL (Yd (G_QA) hr (by rfl) T.g_QA T.k_QA T.b_QA .nil Z3 (Zd (pv 0) (Zd (ZD (Yj (K:=K)) (ZD (Yj (K:=K)) (pv 1) Zx) (pv 8)) Zj))) Zx) (pv 3)))
 (ZG (Zcl PassesOwn.never (Zf2 (QH (Yd (G_QI) hr (by rfl) T.g_QI T.k_QI T.b_QI .nil Z3 (Zd (pv 4) (Zd (pv 6) (Zd (pv 8) (Zd (pv 2) Zj))))))) (Zp (XF (Vf (K:=K) PySem.F.plainAttrs_list PySem.F.slot_list_append PySem.F.type_list_append Vd (Zv (Zw (K:=K)) (pv 6) (pv 8) (λ_ _=>rfl)) (Zd (pv 9) Zj)))
 (ZG (ZR (i:=9) nd9 (by rfl) (by first|exact Or.inl rfl|exact Or.inr rfl) (ZD Y1 (ZD (Yj (K:=K)) (pv 9) Zx) (pv 3)))))))))
 (Zp (ZR (i:=10) nd9 (by rfl) (by first|exact Or.inl rfl|exact Or.inr rfl) (Y2 Zj))
 (Zp ((Y0 PassesOwn.never (by rfl) (Xu (by rfl) T.n_range (Zd (pv 3) Zj)) (ZJ (i:=8) nd9) (ZG (XF (Vf (K:=K) PySem.F.plainAttrs_list PySem.F.slot_list_append PySem.F.type_list_append Vd (pv 10) (Zd (Yd (G_QG) hr (by rfl) T.g_QG T.k_QG T.b_QG .nil Z3 (Zd (Zv (Zw (K:=K)) (pv 6) (pv 8) (λ_ _=>rfl)) (Zd (ZD Y1 (ZD VL (Yd (G_QA) hr (by rfl) T.g_QA T.k_QA T.b_QA .nil Z3 (Zd (pv 0) (Zd Zx Zj))) Zx) Zx) Zj))) Zj))))))
 (ZG (Z0 (Vv (Zd (Yq (Xj (K:=K)) (by rfl) T.n_tuple boot_tuple (Zd (pv 5) Zj)) (Zd (Yq (Xj (K:=K)) (by rfl) T.n_tuple boot_tuple (Zd (pv 4) Zj)) (Zd (Yq (Xj (K:=K)) (by rfl) T.n_tuple boot_tuple (Zd (pv 10) Zj)) Zj)))))))))))))),[],?_⟩
 unfold f_QO;exact(Zz (show VS _ _ [] _ _ _ _ from(ZX 3 (Zh YI (Zo (d:=(.int 1)) (by rfl) (by rfl)) (Zh Y5 (Ye [] (by rfl) (Ze (Zc 0) (Ze (Zc 1) Zk))) (Zo (d:=(.int 5)) (by rfl) (by rfl))))))
 (Zz (show VS _ _ [] _ _ _ _ from(ZX 4 (VF.cl (Yw (by rfl) (XI (Ze (Zc 3) Zk) Xm) (Z2 0) YR (Zh YI (Zo (d:=(.int 1)) (by rfl) (by rfl)) (Zh Y5 (Ye [] (by rfl) (Ze (Zc 1) (Ze (Zh YI (Zh YI (Zc 2) (Zo (d:=(.int 1)) (by rfl) (by rfl))) (Zc 0)) Zk))) (Zo (d:=(.int 5)) (by rfl) (by rfl))))))))
 (Zz (show VS _ _ [] _ _ _ _ from(ZX 5 (VF.cl (Yw (by rfl) (XI (Ze (Zc 3) Zk) Xm) (Z2 0) YR (Zh Y5 (Zh VN (Ye [] (by rfl) (Ze (Zc 1) (Ze (Zh YI (Zh YI (Zc 2) (Zo (d:=(.int 1)) (by rfl) (by rfl))) (Zc 0)) Zk))) (Zo (d:=(.int 5)) (by rfl) (by rfl))) (Zo (d:=(.int 4)) (by rfl) (by rfl)))))))
 (Zje 6 (by rfl) (by rfl) (Zfp (by rfl) (XI (Ze (Zc 3) Zk) Xm) (Z2 0) YR (Xb (Ze (Zh Y5 (Zh YI (Zc 0) (Zo (d:=(.int 1)) (by rfl) (by rfl))) (Zc 1)) Zk)))
 (Qr (Zgk 7 (by decide) (by rfl) (by rfl) (Zfm (Ze (Zh YI (Zc 1) (Zo (d:=(.int 6)) (by rfl) (by rfl))) (Ze (ZZ YB (Ze (Zc 0) Zk)) Zk)) Zln) (Qr (show VM _ _ [] _ _ _ _ _ from ZbT (λ_=>(show VS _ _ [] _ _ _ _ from(ZX 8 (Zh Y5 (Zh VN (Zh Zy (Zc 0) (Zc 7)) (Zo (d:=(.int 7)) (by rfl) (by rfl))) (Zc 3))))) (by rfl))
 (Zkb (Z8 (Zh Ue (ZZ YB (Ze (Zh Zy (Zc 6) (Zc 8)) Zk)) (Zo (d:=(.int 8)) (by rfl) (by rfl)))) (ZdV (Zc 8) (Zh Y5 (Zh Zy (Zc 0) (Zc 7)) (Zc 3))) Zhs)))
 (Qr (Zgk 8 (by decide) (by rfl) (by rfl) (Zfl (Ze (Zc 3) Zk) Xm) (Qr (show VM _ _ [] _ _ _ _ _ from ZbT (λ_=>(show VS _ _ [] _ _ _ _ from(ZX 9 (Zh Y5 (Zh VN (Ye [] (by rfl) (Ze (Zc 0) (Ze (Zh YI (Zh YI (Zc 1) (Zo (d:=(.int 1)) (by rfl) (by rfl))) (Zc 8)) Zk))) (Zo (d:=(.int 20)) (by rfl) (by rfl))) (Zc 3))))) (by rfl))
 (Zfn (Zgd (UU (Ye [] (by rfl) (Ze (Zc 4) (Ze (Zc 6) (Ze (Zc 8) (Ze (Zc 2) Zk))))))) (Qr (ZdV (Zc 8) (Zc 9))
 (show VM _ _ [] _ _ _ _ _ from ZbT (λ_=>(show VS _ _ [] _ _ _ _ from(ZX 9 (Zh Y5 (Zh YI (Zc 9) (Zo (d:=(.int 1)) (by rfl) (by rfl))) (Zc 3))))) (by rfl))))))
 (Zjg (ow1:=[]) (Zz (show VS _ _ [10] _ _ _ _ from(VB 10 (Xb Zk)))
 (Zz (X2 (XI (Ze (Zc 3) Zk) Xm) (Z2 8) (Uh 10 (by rfl) (Ye [] (by rfl) (Ze (Zh Zy (Zc 6) (Zc 8)) (Ze (Zh Y5 (Zh VN (Ye [] (by rfl) (Ze (Zc 0) (Ze (Zo (d:=(.int 1)) (by rfl) (by rfl)) Zk))) (Zo (d:=(.int 2)) (by rfl) (by rfl))) (Zo (d:=(.int 2)) (by rfl) (by rfl))) Zk)))))
 (VS.frz (ow1:=[]) 10 (Z4 (Vy (Ze (Xl (Ze (Zc 5) Zk)) (Ze (Xl (Ze (Zc 4) Zk)) (Ze (Xl (Ze (Zc 10) Zk)) Zk)))))))))))))))
theorem ZkH(T:Txt K mg t):FnOk P w K mg base CX0 4 t.a_QD t.d_QD ["script", "told"] (spD ⟨t.c,K⟩ 2 Jp):=by
 have GM_QP:=(ZgX (P:=P) (w:=w) (base:=base) T).mono (k:=2) (by decide);have G_QA:=(ZgZ (P:=P) (w:=w) (base:=base) T).mono (k:=3) (by decide);refine YH (φ:=f_QD) T.f_QD Zko (by conv=>lhs;whnf) (by conv=>lhs;whnf) (λcdv A outer s H E hr => ?_) rfl rfl;refine⟨_,(Zp (YO (Z7 (Uc (cA:=⟨t.c,K⟩) (hr.units)) (ZD Y1 (Yd (G_QA) hr (by rfl) T.g_QA T.k_QA T.b_QA .nil Z3 (Zd (pv 0) (Zd Zx Zj))) Zx) Zx (Yb _)) (ZG (Z0 (QN T.mk_Web (GM_QP) hr (by rfl) T.g_Web T.b_QP .nil Z3 (Zd (Zv (Zw (K:=K)) (pv 1) Zx (λ_ _=>rfl)) (Zd (Zv (Zw (K:=K)) (pv 1) Zx (λ_ _=>rfl)) (Zd (Zv (Zw (K:=K)) (pv 1) Zx (λ_ _=>rfl)) Zj)))))) YN)
 (Zp (ZR (i:=2) Ju (by rfl) (by first|exact Or.inl rfl|exact Or.inr rfl) (Y2 (Zd (Yq (Uk (K:=K)) (by rfl) T.n_list boot_list (Zd (Zv (Zw (K:=K)) (pv 1) Zx (λ_ _=>rfl)) Zj)) (Zd (Yq (Uk (K:=K)) (by rfl) T.n_list boot_list (Zd (Zv (Zw (K:=K)) (pv 1) Zx (λ_ _=>rfl)) Zj)) (Zd (Xh (by rfl) (CompSc.mk' (tn:=["row"]) (cn:=[]) (js:=[]) (osc:=defScope Vo) (oN:=["script", "told", "parts", "web", "row", "part"]) (by rfl) (by rfl) (by rfl) (by decide +kernel)) (Yt (K:=K) (Zv (Zw (K:=K)) (pv 1) Zx (λ_ _=>rfl))) (λC s₂ H₂ fp=>ZJ (i:=0) Zlr) (λC s₂ H₂ fp=>YQ) (λC s₂ H₂ fp=>(Yq (Uk (K:=K)) (by rfl) T.n_list boot_list (Zd (pv 0) Zj)))) Zj)))))
 (Zp (ZR (i:=3) Ju (by rfl) (by first|exact Or.inl rfl|exact Or.inr rfl) (QN T.mk_Web (GM_QP) hr (by rfl) T.g_Web T.b_QP .nil Z3 (Zd (Zv (Zw (K:=K)) (pv 2) Zx (λ_ _=>rfl)) (Zd (Zv (Zw (K:=K)) (pv 2) Zx (λ_ _=>rfl)) (Zd (Zv (Zw (K:=K)) (pv 2) Zx (λ_ _=>rfl)) Zj)))))
 (Zp (Y0 PassesOwn.never (by rfl) (Yt (K:=K) (Zv (Zw (K:=K)) (pv 2) Zx (λ_ _=>rfl))) (ZJ (i:=4) Ju) (ZG (XF (ZgS (K:=K) PySem.F.plainAttrs_list PySem.F.slot_list_clear PySem.F.type_list_clear Zcp (pv 4)))))
 (Zp (Y0 PassesOwn.never (by rfl) (Yt (K:=K) (pv 2)) (ZJ (i:=5) Ju) (ZG (XF (ZgS (K:=K) PySem.F.plainAttrs_list PySem.F.slot_list_clear PySem.F.type_list_clear Zcp (pv 5)))))
 (ZG (Z0 (pv 3)))))))),[],?_⟩
 unfold f_QD;exact(Zz (YY (Z8 (Zh Ud (Zh Y5 (Ye [] (by rfl) (Ze (Zc 0) (Ze (Zo (d:=(.int 1)) (by rfl) (by rfl)) Zk))) (Zo (d:=(.int 2)) (by rfl) (by rfl))) (Zo (d:=(.int 0)) (by rfl) (by rfl)))) (Z4 (Q3 (c:="Web") [] (by rfl) (Ze (Zh Zy (Zc 1) (Zo (d:=(.int 0)) (by rfl) (by rfl))) (Ze (Zh Zy (Zc 1) (Zo (d:=(.int 1)) (by rfl) (by rfl))) (Ze (Zh Zy (Zc 1) (Zo (d:=(.int 2)) (by rfl) (by rfl))) Zk))))) YX)
 (ZeJ 2 3 4 5 (by decide) (by decide) (by decide) (by decide) (by decide) (by rfl) (Ul (Or.inl rfl) (Ze (Zh Zy (Zc 1) (Zo (d:=(.int 0)) (by rfl) (by rfl))) Zk)) (Ul (Or.inl rfl) (Ze (Zh Zy (Zc 1) (Zo (d:=(.int 1)) (by rfl) (by rfl))) Zk)) (Zfv (by rfl) (YS (Zh Zy (Zc 1) (Zo (d:=(.int 2)) (by rfl) (by rfl)))) (Z2 0) YR (Ul (Or.inl rfl) (Ze (Zc 0) Zk))) (Q3 (c:="Web") [] (by rfl) (Ze (Zh Zy (Zc 2) (Zo (d:=(.int 0)) (by rfl) (by rfl))) (Ze (Zh Zy (Zc 2) (Zo (d:=(.int 1)) (by rfl) (by rfl))) (Ze (Zh Zy (Zc 2) (Zo (d:=(.int 2)) (by rfl) (by rfl))) Zk))))))
theorem ZkI(T:Txt K mg t):FnOk P w K mg base CX0 1 t.a_QH t.d_QH ["told", "n"] (spD ⟨t.c,K⟩ 2 Jq):=by
 refine YH (φ:=f_QH) T.f_QH Zkp (by conv=>lhs;whnf) (by conv=>lhs;whnf) (λcdv A outer s H E hr => ?_) rfl rfl;refine⟨_,(Zp (UM (pv 0) (US (K:=K) (n:=3) (Y8 (ZJ (i:=2) Jv) (Y8 (ZJ (i:=3) Jv) (Y8 (ZJ (i:=4) Jv) UL)))))
 (Zp ((Y0 PassesOwn.never (by rfl) (Xu (by rfl) T.n_range (Zd (ZT (YA (K:=K)) (by rfl) T.n_len boot_len (Zd (pv 2) Zj)) Zj)) (ZJ (i:=5) Jv) (ZG (YO (Z7 UN (ZT (Q4 (K:=K)) (by rfl) T.n_sum boot_sum (Zd (Xh (by rfl) (CompSc.mk' (tn:=["way"]) (cn:=["weights"]) (js:=[3]) (osc:=defScope Vp) (oN:=["told", "n", "homes", "weights", "ways", "place"]) (by rfl) (by rfl) (by rfl) (by decide +kernel)) (Yt (K:=K) (Zv (Zw (K:=K)) (pv 4) (pv 5) (λ_ _=>rfl))) (λC s₂ H₂ fp=>ZJ (i:=0) ZjP) (λC s₂ H₂ fp=>YQ) (λC s₂ H₂ fp=>(Zv (Zw (K:=K)) (pv 1) (Zv (Zw (K:=K)) (pv 0) Zx (λ_ _=>rfl)) (λ_ _=>rfl)))) Zj)) (ZD (Q7 (K:=K)) (pv 1) (Zv (Zw (K:=K)) (pv 3) (pv 5) (λ_ _=>rfl))) (Yb _)) (ZG (Z0 Vt)) YN))))
 (ZG (Z0 Vt)))),[],?_⟩
 unfold f_QH;exact(Zz (ZbV (Zc 0) (UX (Xc 2 (by rfl) (by rfl) (Xc 3 (by rfl) (by rfl) (Xc 4 (by rfl) (by rfl) UW)))))
 (Zz (X2 (XI (Ze (ZZ YB (Ze (Zc 2) Zk)) Zk) Xm) (Z2 5) (YY (Z8 (Zh Ue (ZZ Q5 (Ze (VF.cl (Yw (by rfl) (YS (Zh Zy (Zc 4) (Zc 5))) (Z2 0) YR (Zh Zy (Zc 1) (Zh Zy (Zc 0) (Zo (d:=(.int 1)) (by rfl) (by rfl)))))) Zk)) (Zh ZbR (Zc 1) (Zh Zy (Zc 3) (Zc 5))))) (Z4 (Zo (d:=(.bl false)) (by rfl) (by rfl))) YX))
 (Z4 (Zo (d:=(.bl true)) (by rfl) (by rfl)))))
theorem ZkJ(T:Txt K mg t):FnOk P w K mg base CX0 1 t.a_QB t.d_QB ["ways", "place"] (spD ⟨t.c,K⟩ 2 Qy):=by
 refine YH (φ:=f_QB) T.f_QB Zkq (by conv=>lhs;whnf) (by conv=>lhs;whnf) (λcdv A outer s H E hr => ?_) rfl rfl;refine⟨_,(Zp (ZR (i:=2) ZjQ (by rfl) (by first|exact Or.inl rfl|exact Or.inr rfl) Zfh)
 (Zp (ZR (i:=3) ZjQ (by rfl) (by first|exact Or.inl rfl|exact Or.inr rfl) (Y2 (Zd (pv 1) Zj)))
 (Zp ((Zcl PassesOwn.never (Z7 ZjV (ZT (YA (K:=K)) (by rfl) T.n_len boot_len (Zd (pv 3) Zj)) Zx (Yb _)) (ZG ((Y0 PassesOwn.never (by rfl) (Yt (K:=K) (Zv (Zw (K:=K)) (pv 0) (ZgS (K:=K) PySem.F.plainAttrs_list PySem.F.slot_list_pop PySem.F.type_list_pop Zi3 (pv 3)) (λ_ _=>rfl))) (ZJ (i:=4) ZjQ) (ZG (YO (Zf1 (Zez (Zgl hr.units) (Zv (Zw (K:=K)) (pv 4) Zx (λ_ _=>rfl)) (pv 2))) (Zp (Zhh (Zgl hr.units) (pv 2) (Zv (Zw (K:=K)) (pv 4) Zx (λ_ _=>rfl)) Vt (by rfl))
 (ZG (XF (Vf (K:=K) PySem.F.plainAttrs_list PySem.F.slot_list_append PySem.F.type_list_append Vd (pv 3) (Zd (Zv (Zw (K:=K)) (pv 4) Zx (λ_ _=>rfl)) Zj))))) YN)))))))
 (ZG (Z0 (pv 2)))))),[],?_⟩
 unfold f_QB;exact(Zz (show VS _ _ [2] _ _ _ _ from Zhy 2 Zhx (by rfl) (by rfl) (by rfl) (by rfl))
 (Zz (show VS _ _ [2,3] _ _ _ _ from(VB 3 (Xb (Ze (Zc 1) Zk))))
 (Zz (Zfi (ow:=[2,3]) (Z8 (Zh Ue (ZZ YB (Ze (Zgb 3 (by rfl)) Zk)) (Zo (d:=(.int 0)) (by rfl) (by rfl)))) (ZhD (Zfu 3 (by rfl) (Zc 0)) (Z2 4) (YY (UU (ZeE (Zh Zy (Zc 4) (Zo (d:=(.int 1)) (by rfl) (by rfl))) (Zgb 2 (by rfl)))) (Zz (Zhz 2 (by rfl) (Zo (d:=(.bl true)) (by rfl) (by rfl)) (Zh Zy (Zc 4) (Zo (d:=(.int 1)) (by rfl) (by rfl))))
 (Uh 3 (by rfl) (Zh Zy (Zc 4) (Zo (d:=(.int 1)) (by rfl) (by rfl))))) YX)))
 (VS.frz (ow1:=[2]) 3 (VS.frz (ow1:=[]) 2 (Z4 (Zc 2)))))))
theorem ZkK(T:Txt K mg t):FnOk P w K mg base CX0 2 t.a_QK t.d_QK ["told"] (spD ⟨t.c,K⟩ 1 Jr):=by
 have G_QB:=(ZkJ (P:=P) (w:=w) (base:=base) T).mono (k:=1) (by decide);refine YH (φ:=f_QK) T.f_QK Zkr (by conv=>lhs;whnf) (by conv=>lhs;whnf) (λcdv A outer s H E hr => ?_) rfl rfl;refine⟨_,(Zp ((Y0 PassesOwn.never (by rfl) (Xu (by rfl) T.n_range (Zd (ZT (YA (K:=K)) (by rfl) T.n_len boot_len (Zd (Zv (Zw (K:=K)) (pv 0) Zx (λ_ _=>rfl)) Zj)) Zj)) (ZJ (i:=1) ZlP) (ZG (YO (Z7 (XZ (cA:=⟨t.c,K⟩) (hr.units)) (ZT (Zji (K:=K)) (by rfl) T.n_len boot_len (Zd (Yd (G_QB) hr (by rfl) T.g_QB T.k_QB T.b_QB .nil Z3 (Zd (Zv (Zw (K:=K)) (pv 0) Zx (λ_ _=>rfl)) (Zd (pv 1) Zj))) Zj)) (ZT (YA (K:=K)) (by rfl) T.n_len boot_len (Zd (Zv (Zw (K:=K)) (pv 0) Zx (λ_ _=>rfl)) Zj)) (Yb _)) (ZG (Z0 Vt)) YN))))
 (ZG (Z0 Vt))),[],?_⟩
 unfold f_QK;exact(Zz (X2 (XI (Ze (ZZ YB (Ze (Zh Zy (Zc 0) (Zo (d:=(.int 0)) (by rfl) (by rfl))) Zk)) Zk) Xm) (Z2 1) (YY (Z8 (Zh X0 (ZZ ZhE (Ze (Ye [] (by rfl) (Ze (Zh Zy (Zc 0) (Zo (d:=(.int 2)) (by rfl) (by rfl))) (Ze (Zc 1) Zk))) Zk)) (ZZ YB (Ze (Zh Zy (Zc 0) (Zo (d:=(.int 0)) (by rfl) (by rfl))) Zk)))) (Z4 (Zo (d:=(.bl false)) (by rfl) (by rfl))) YX))
 (Z4 (Zo (d:=(.bl true)) (by rfl) (by rfl))))
theorem ZkL(T:Txt K mg t):FnOk P w K mg base CX0 1 t.a_QE t.d_QE ["weights", "ways", "place", "n"] (spD ⟨t.c,K⟩ 4 Js):=by
 refine YH (φ:=f_QE) T.f_QE Zks (by conv=>lhs;whnf) (by conv=>lhs;whnf) (λcdv A outer s H E hr => ?_) rfl rfl;refine⟨_,(Zp (ZR (i:=4) UC (by rfl) (by first|exact Or.inl rfl|exact Or.inr rfl) (Xh (by rfl) (CompSc.mk' (tn:=["k"]) (cn:=["weights", "ways", "place"]) (js:=[0,1,2]) (osc:=defScope X7) (oN:=["weights", "ways", "place", "n", "lesser", "row", "begin", "total", "end"]) (by rfl) (by rfl) (by rfl) (by decide +kernel)) (Xu (by rfl) T.n_range (Zd (ZT (YA (K:=K)) (by rfl) T.n_len boot_len (Zd (Zv (Zw (K:=K)) (pv 1) (pv 2) (λ_ _=>rfl)) Zj)) Zj)) (λC s₂ H₂ fp=>ZJ (i:=0) ZlQ) (λC s₂ H₂ fp=>(Qj (Z7 UN (Zv (Zw (K:=K)) (pv 1) (Zv (Zw (K:=K)) (Zv (Zw (K:=K)) (Zv (Zw (K:=K)) (pv 2) (pv 3) (λ_ _=>rfl)) (pv 0) (λ_ _=>rfl)) Zx (λ_ _=>rfl)) (λ_ _=>rfl)) (Zv (Zw (K:=K)) (pv 1) (pv 3) (λ_ _=>rfl)) (Yb _)))) (λC s₂ H₂ fp=>(pv 0))))
 (Zp (VH (i:=5) UC (by rfl) (by rfl) (by rfl) (CompSc.mk' (tn:=["k"]) (cn:=["lesser"]) (js:=[4]) (osc:=defScope X7) (oN:=["weights", "ways", "place", "n", "lesser", "row", "begin", "total", "end"]) (by rfl) (by rfl) (by rfl) (by decide +kernel)) (Zjn (by rfl) T.n_reversed (by rfl) T.n_range (Zd (ZT (YA (K:=K)) (by rfl) T.n_len boot_len (Zd (Zv (Zw (K:=K)) (pv 1) (pv 2) (λ_ _=>rfl)) Zj)) Zj)) (λC s₂ H₂ fp=>ZJ (i:=0) ZlR) (λC s₂ H₂ fp=>(Qj (Z7 (XZ (cA:=⟨t.c,K⟩) (hr.units)) (pv 0) (Zv (Zw (K:=K)) (pv 1) (Zic Zf4 Zx) (λ_ _=>rfl)) (Yb _)))) (λC s₂ H₂ fp=>(pv 0)))
 (Zp (ZR (i:=5) UC (by rfl) (by first|exact Or.inl rfl|exact Or.inr rfl) (ZD (Yj (K:=K)) (Y2 (Zd (Zv (Zw (K:=K)) (pv 4) (Zic Zf4 Zx) (λ_ _=>rfl)) Zj)) (Zco (Zlh (K:=K)) (pv 5) Zha (J6 (ZD QL (pv 3) Zx)))))
 (Zp ((Y0 PassesOwn.never (by rfl) (Xu (by rfl) T.n_range (Zd (ZT (YA (K:=K)) (by rfl) T.n_len boot_len (Zd (pv 5) Zj)) Zj)) (ZJ (i:=6) UC) (Zp (ZR (i:=7) UC (by rfl) (by first|exact Or.inl rfl|exact Or.inr rfl) Zx)
 (ZG ((Y0 PassesOwn.never (by rfl) (Zbe (by rfl) T.n_range (Zd (pv 6) (Zd (ZT (YA (K:=K)) (by rfl) T.n_len boot_len (Zd (pv 5) Zj)) Zj))) (ZJ (i:=8) UC) (Zp (ZR (i:=7) UC (by rfl) (by first|exact Or.inl rfl|exact Or.inr rfl) (ZD (Yj (K:=K)) (pv 7) (Zv (Zw (K:=K)) (pv 0) (Zv (Zw (K:=K)) (Zv (Zw (K:=K)) (Zv (Zw (K:=K)) (pv 1) (pv 2) (λ_ _=>rfl)) (Zv (Zw (K:=K)) (pv 5) (pv 8) (λ_ _=>rfl)) (λ_ _=>rfl)) Zx (λ_ _=>rfl)) (λ_ _=>rfl))))
 (ZG (YO (Z7 (Uc (cA:=⟨t.c,K⟩) (hr.units)) (ZD Y1 (pv 7) (pv 3)) Zx (Yb _)) (ZG (Z0 (ZT (ZhA (K:=K)) (by rfl) T.n_sorted boot_sorted (Zd (Zco (Zlh (K:=K)) (pv 5) (J6 (pv 6)) (J6 (ZD (Yj (K:=K)) (pv 8) Zx))) Zj)))) YN)))))))))
 (ZG (Z0 (Y2 Zj))))))),[],?_⟩
 unfold f_QE;exact(Zz (show VS _ _ [] _ _ _ _ from(ZX 4 (VF.cl (Yw (by rfl) (XI (Ze (ZZ YB (Ze (Zh Zy (Zc 1) (Zc 2)) Zk)) Zk) Xm) (Z2 0) (Z8 (Zh Ue (Zh Zy (Zc 1) (Zh Zy (Zh Zy (Zh Zy (Zc 2) (Zc 3)) (Zc 0)) (Zo (d:=(.int 1)) (by rfl) (by rfl)))) (Zh Zy (Zc 1) (Zc 3)))) (Zc 0)))))
 (Zz (show VS _ _ [] _ _ _ _ from(ZX 5 (VF.cl (Yw (by rfl) (Zjo (Ze (ZZ YB (Ze (Zh Zy (Zc 1) (Zc 2)) Zk)) Zk)) (Z2 0) (Z8 (Zh X0 (Zc 0) (Zh Zy (Zc 1) (Zgg (Zo (d:=(.int 1)) (by rfl) (by rfl)))))) (Zc 0)))))
 (Zz (show VS _ _ [] _ _ _ _ from(ZX 5 (VF.cl (U7 (VF.cl (Xb (Ze (Zh Zy (Zc 4) (Zgg (Zo (d:=(.int 1)) (by rfl) (by rfl)))) Zk))) (Zis (Or.inl rfl) (Zc 5) Zhm (ZbP (Zh QT (Zc 3) (Zo (d:=(.int 1)) (by rfl) (by rfl)))))))))
 (Zz (X2 (XI (Ze (ZZ YB (Ze (Zc 5) Zk)) Zk) Xm) (Z2 6) (Zz (show VS _ _ [] _ _ _ _ from(ZX 7 (Zo (d:=(.int 0)) (by rfl) (by rfl))))
 (X2 (Zhk (Ze (Zc 6) (Ze (ZZ YB (Ze (Zc 5) Zk)) Zk)) Zln) (Z2 8) (Zz (show VS _ _ [] _ _ _ _ from(ZX 7 (Zh YI (Zc 7) (Zh Zy (Zc 0) (Zh Zy (Zh Zy (Zh Zy (Zc 1) (Zc 2)) (Zh Zy (Zc 5) (Zc 8))) (Zo (d:=(.int 1)) (by rfl) (by rfl)))))))
 (YY (Z8 (Zh Ud (Zh Y5 (Zc 7) (Zc 3)) (Zo (d:=(.int 0)) (by rfl) (by rfl)))) (Z4 (VF.cl (ZhC (Or.inl rfl) (Ze (Zis (Or.inl rfl) (Zc 5) (ZbP (Zc 6)) (ZbP (Zh YI (Zc 8) (Zo (d:=(.int 1)) (by rfl) (by rfl))))) Zk)))) YX)))))
 (Z4 (VF.cl (Xb Zk)))))))
theorem ZkM(T:Txt K mg t):FnOk P w K mg base CX0 1 t.a_QF t.d_QF ["weights", "ways"] (spD ⟨t.c,K⟩ 2 Qz):=by
 refine YH (φ:=f_QF) T.f_QF Zkt (by conv=>lhs;whnf) (by conv=>lhs;whnf) (λcdv A outer s H E hr => ?_) rfl rfl;refine⟨_,(Zp ((Y0 PassesOwn.never (by rfl) (Xu (by rfl) T.n_range (Zd (ZT (YA (K:=K)) (by rfl) T.n_len boot_len (Zd (pv 0) Zj)) Zj)) (ZJ (i:=2) Zls) (Zp (ZR (i:=3) Zls (by rfl) (by first|exact Or.inl rfl|exact Or.inr rfl) (ZT (Zgn (K:=K)) (by rfl) T.n_min boot_min (Zd (Xh (by rfl) (CompSc.mk' (tn:=["way"]) (cn:=["weights"]) (js:=[0]) (osc:=defScope Vq) (oN:=["weights", "ways", "place", "lesser"]) (by rfl) (by rfl) (by rfl) (by decide +kernel)) (Yt (K:=K) (Zv (Zw (K:=K)) (pv 1) (pv 2) (λ_ _=>rfl))) (λC s₂ H₂ fp=>ZJ (i:=0) ZjP) (λC s₂ H₂ fp=>YQ) (λC s₂ H₂ fp=>(Zv (Zw (K:=K)) (pv 1) (Zv (Zw (K:=K)) (pv 0) Zx (λ_ _=>rfl)) (λ_ _=>rfl)))) Zj)))
 (ZG (YO (PW.pt (QI (Z7 (Uc (cA:=⟨t.c,K⟩) (hr.units)) (Zv (Zw (K:=K)) (pv 0) (pv 2) (λ_ _=>rfl)) (ZT (Zgm (K:=K)) (by rfl) T.n_max boot_max (Zd (pv 0) Zj)) (Yb _)) (JN (Z7 UN (pv 3) (Zv (Zw (K:=K)) (pv 0) (pv 2) (λ_ _=>rfl)) (Yb _))))) (ZG (Z0 (pv 2))) YN)))))
 (ZG (Z0 ZiS))),[],?_⟩
 unfold f_QF;exact(Zz (X2 (XI (Ze (ZZ YB (Ze (Zc 0) Zk)) Zk) Xm) (Z2 2) (Zz (show VS _ _ [] _ _ _ _ from(ZX 3 (ZZ ZdY (Ze (VF.cl (Yw (by rfl) (YS (Zh Zy (Zc 1) (Zc 2))) (Z2 0) YR (Zh Zy (Zc 1) (Zh Zy (Zc 0) (Zo (d:=(.int 1)) (by rfl) (by rfl)))))) Zk))))
 (YY (QV (Z8 (Zh Ud (Zh Zy (Zc 0) (Zc 2)) (ZZ ZdX (Ze (Zc 0) Zk)))) (Z8 (Zh Ue (Zc 3) (Zh Zy (Zc 0) (Zc 2))))) (Z4 (Zc 2)) YX)))
 (Z4 (Zo (d:=.non) (by rfl) (by rfl))))
theorem ZkN(T:Txt K mg t):FnOk P w K mg base CX0 1 t.a_QC t.d_QC ["told", "place", "picks", "n"] (spD ⟨t.c,K⟩ 4 QA):=by
 refine YH (φ:=f_QC) T.f_QC Zku (by conv=>lhs;whnf) (by conv=>lhs;whnf) (λcdv A outer s H E hr => ?_) rfl rfl;refine⟨_,(Zp (UM (pv 0) (US (K:=K) (n:=3) (Y8 (ZJ (i:=4) XC) (Y8 (ZJ (i:=5) XC) (Y8 (ZJ (i:=6) XC) UL)))))
 (Zp (VH (i:=7) XC (by rfl) (by rfl) (by rfl) (CompSc.mk' (tn:=["k"]) (cn:=["ways", "place"]) (js:=[6,1]) (osc:=defScope Xr) (oN:=["told", "place", "picks", "n", "homes", "weights", "ways", "mine", "rest", "share", "rows", "done", "row", "twice", "block", "to", "turned"]) (by rfl) (by rfl) (by rfl) (by decide +kernel)) (Yt (K:=K) (pv 2)) (λC s₂ H₂ fp=>ZJ (i:=0) ZlS) (λC s₂ H₂ fp=>YQ) (λC s₂ H₂ fp=>(Zv (Zw (K:=K)) (Zv (Zw (K:=K)) (pv 1) (pv 2) (λ_ _=>rfl)) (pv 0) (λ_ _=>rfl))))
 (Zp (VH (i:=8) XC (by rfl) (by rfl) (by rfl) (CompSc.mk' (tn:=["k"]) (cn:=["ways", "place", "picks"]) (js:=[6,1,2]) (osc:=defScope Xr) (oN:=["told", "place", "picks", "n", "homes", "weights", "ways", "mine", "rest", "share", "rows", "done", "row", "twice", "block", "to", "turned"]) (by rfl) (by rfl) (by rfl) (by decide +kernel)) (Xu (by rfl) T.n_range (Zd (ZT (YA (K:=K)) (by rfl) T.n_len boot_len (Zd (Zv (Zw (K:=K)) (pv 6) (pv 1) (λ_ _=>rfl)) Zj)) Zj)) (λC s₂ H₂ fp=>ZJ (i:=0) ZlT) (λC s₂ H₂ fp=>(Qj (Z7 (Za0 (K:=K)) (pv 0) (pv 3) (by rfl)))) (λC s₂ H₂ fp=>(Zv (Zw (K:=K)) (Zv (Zw (K:=K)) (pv 1) (pv 2) (λ_ _=>rfl)) (pv 0) (λ_ _=>rfl))))
 (Zp (ZR (i:=9) XC (by rfl) (by first|exact Or.inl rfl|exact Or.inr rfl) (ZD VL (ZT (Q4 (K:=K)) (by rfl) T.n_sum boot_sum (Zd (Xh (by rfl) (CompSc.mk' (tn:=["way"]) (cn:=["weights"]) (js:=[5]) (osc:=defScope Xr) (oN:=["told", "place", "picks", "n", "homes", "weights", "ways", "mine", "rest", "share", "rows", "done", "row", "twice", "block", "to", "turned"]) (by rfl) (by rfl) (by rfl) (by decide +kernel)) (Yt (K:=K) (pv 7)) (λC s₂ H₂ fp=>ZJ (i:=0) ZjP) (λC s₂ H₂ fp=>YQ) (λC s₂ H₂ fp=>(Zv (Zw (K:=K)) (pv 1) (Zv (Zw (K:=K)) (pv 0) Zx (λ_ _=>rfl)) (λ_ _=>rfl)))) Zj)) (pv 3)))
 (Zp (ZR (i:=10) XC (by rfl) (by first|exact Or.inl rfl|exact Or.inr rfl) (ZD (Yj (K:=K)) (Xh (by rfl) (CompSc.mk' (tn:=["row"]) (cn:=[]) (js:=[]) (osc:=defScope Xr) (oN:=["told", "place", "picks", "n", "homes", "weights", "ways", "mine", "rest", "share", "rows", "done", "row", "twice", "block", "to", "turned"]) (by rfl) (by rfl) (by rfl) (by decide +kernel)) (Yt (K:=K) (pv 6)) (λC s₂ H₂ fp=>ZJ (i:=0) Zlr) (λC s₂ H₂ fp=>YQ) (λC s₂ H₂ fp=>(Yq (Uk (K:=K)) (by rfl) T.n_list boot_list (Zd (pv 0) Zj)))) (Y2 (Zd (pv 8) Zj))))
 (Zp (UM (pv 7) (JS (pv 10) (pv 1) J9))
 (Zp (ZR (i:=11) XC (by rfl) (by first|exact Or.inl rfl|exact Or.inr rfl) (Y2 Zj))
 (Zp ((Y0 PassesOwn.never (by rfl) (Yt (K:=K) (pv 10)) (ZJ (i:=12) XC) (Zp (ZR (i:=13) XC (by rfl) (by first|exact Or.inl rfl|exact Or.inr rfl) (Y2 Zj))
 (Zp ((Y0 PassesOwn.never (by rfl) (Yt (K:=K) (pv 12)) (US (K:=K) (n:=2) (Y8 (ZJ (i:=14) XC) (Y8 (ZJ (i:=15) XC) UL))) (Zp (XF (Vf (K:=K) PySem.F.plainAttrs_list PySem.F.slot_list_append PySem.F.type_list_append Vd (pv 13) (Zd (Vv (Zd (pv 14) (Zd (pv 15) Zj))) Zj)))
 (ZG (YO (Z7 (Uc (cA:=⟨t.c,K⟩) (hr.units)) (pv 15) (pv 1) (Yb _)) (ZG (XF (Vf (K:=K) PySem.F.plainAttrs_list PySem.F.slot_list_append PySem.F.type_list_append Vd (pv 13) (Zd (Vv (Zd (pv 14) (Zd (ZT (YA (K:=K)) (by rfl) T.n_len boot_len (Zd (pv 4) Zj)) Zj))) Zj)))) YN)))))
 (ZG (XF (Vf (K:=K) PySem.F.plainAttrs_list PySem.F.slot_list_append PySem.F.type_list_append Vd (pv 11) (Zd (Yq (Xj (K:=K)) (by rfl) T.n_tuple boot_tuple (Zd (pv 13) Zj)) Zj))))))))
 (Zp (VH (i:=16) XC (by rfl) (by rfl) (by rfl) (CompSc.mk' (tn:=["k"]) (cn:=["place", "weights", "share"]) (js:=[1,5,9]) (osc:=defScope Xr) (oN:=["told", "place", "picks", "n", "homes", "weights", "ways", "mine", "rest", "share", "rows", "done", "row", "twice", "block", "to", "turned"]) (by rfl) (by rfl) (by rfl) (by decide +kernel)) (Xu (by rfl) T.n_range (Zd (ZT (YA (K:=K)) (by rfl) T.n_len boot_len (Zd (pv 5) Zj)) Zj)) (λC s₂ H₂ fp=>ZJ (i:=0) ZlU) (λC s₂ H₂ fp=>YQ) (λC s₂ H₂ fp=>(Ze4 (Z7 (XZ (cA:=⟨t.c,K⟩) (hr.units)) (pv 0) (pv 1) (Yb _)) (Zv (Zw (K:=K)) (pv 2) (pv 0) (λ_ _=>rfl)) (pv 3))))
 (ZG (Z0 (Vv (Zd (ZD (Zjj (K:=K)) (pv 4) (Vv (Zd (Zv (Zw (K:=K)) (pv 4) (pv 1) (λ_ _=>rfl)) Zj))) (Zd (Yq (Xj (K:=K)) (by rfl) T.n_tuple boot_tuple (Zd (ZD (Yj (K:=K)) (pv 16) (Y2 (Zd (ZD QL (Zv (Zw (K:=K)) (pv 5) (pv 1) (λ_ _=>rfl)) (pv 9)) Zj))) Zj)) (Zd (Yq (Xj (K:=K)) (by rfl) T.n_tuple boot_tuple (Zd (pv 11) Zj)) Zj))))))))))))))),[],?_⟩
 unfold f_QC;exact(Zz (ZbV (Zc 0) (UX (Xc 4 (by rfl) (by rfl) (Xc 5 (by rfl) (by rfl) (Xc 6 (by rfl) (by rfl) UW)))))
 (Zz (show VS _ _ [] _ _ _ _ from(ZX 7 (VF.cl (Yw (by rfl) (YS (Zc 2)) (Z2 0) YR (Zh Zy (Zh Zy (Zc 1) (Zc 2)) (Zc 0))))))
 (Zz (show VS _ _ [] _ _ _ _ from(ZX 8 (VF.cl (Yw (by rfl) (XI (Ze (ZZ YB (Ze (Zh Zy (Zc 6) (Zc 1)) Zk)) Zk) Xm) (Z2 0) (Z8 (Zh QU (Zc 0) (Zc 3))) (Zh Zy (Zh Zy (Zc 1) (Zc 2)) (Zc 0))))))
 (Zz (show VS _ _ [] _ _ _ _ from(ZX 9 (Zh VN (ZZ Q5 (Ze (VF.cl (Yw (by rfl) (YS (Zc 7)) (Z2 0) YR (Zh Zy (Zc 1) (Zh Zy (Zc 0) (Zo (d:=(.int 1)) (by rfl) (by rfl)))))) Zk)) (Zc 3))))
 (Zz (show VS _ _ [10] _ _ _ _ from(VB 10 (U7 (VF.cl (Yw (by rfl) (YS (Zc 6)) (Z2 0) YR (VF.cl (Ul (Or.inl rfl) (Ze (Zc 0) Zk))))) (VF.cl (Xb (Ze (Zc 8) Zk))))))
 (Zz (ZbS 10 (by rfl) (Zc 7) (Zc 1))
 (VS.frz (ow1:=[]) 10 (Zz (show VS _ _ [11] _ _ _ _ from(VB 11 (Xb Zk)))
 (Zz (X2 (YS (Zc 10)) (Z2 12) (Zz (show VS _ _ [11,13] _ _ _ _ from(VB 13 (Xb Zk)))
 (Zz (X2 (YS (Zc 12)) (UX (Xc 14 (by rfl) (by rfl) (Xc 15 (by rfl) (by rfl) UW))) (Zz (Uh 13 (by rfl) (Vy (Ze (Zc 14) (Ze (Zc 15) Zk))))
 (YY (Z8 (Zh Ud (Zc 15) (Zc 1))) (Uh 13 (by rfl) (Vy (Ze (Zc 14) (Ze (ZZ YB (Ze (Zc 4) Zk)) Zk)))) YX)))
 (VS.frz (ow1:=[11]) 13 (Uh 11 (by rfl) (Xl (Ze (Zc 13) Zk)))))))
 (VS.frz (ow1:=[]) 11 (Zz (show VS _ _ [] _ _ _ _ from(ZX 16 (VF.cl (Yw (by rfl) (XI (Ze (ZZ YB (Ze (Zc 5) Zk)) Zk) Xm) (Z2 0) YR (Zj7 (Z8 (Zh X0 (Zc 0) (Zc 1))) (Zh Zy (Zc 2) (Zc 0)) (Zc 3))))))
 (Z4 (Vy (Ze (Zh ZhF (Zc 4) (Vy (Ze (Zh Zy (Zc 4) (Zc 1)) Zk))) (Ze (Xl (Ze (VF.cl (U7 (Zc 16) (VF.cl (Xb (Ze (Zh QT (Zh Zy (Zc 5) (Zc 1)) (Zc 9)) Zk))))) Zk)) (Ze (Xl (Ze (Zc 11) Zk)) Zk))))))))))))))))
theorem ZkO(T:Txt K mg t):FnOk P w K mg base CX0 1 t.a_QL t.d_QL ["web"] (spD ⟨t.c,K⟩ 1 VV):=by
 refine YH (φ:=f_QL) T.f_QL Zkv (by conv=>lhs;whnf) (by conv=>lhs;whnf) (λcdv A outer s H E hr => ?_) rfl rfl;refine⟨_,(ZG (Z0 (Vv (Zd (Xi (K:=K) (pv 0)) (Zd (Xi (K:=K) (pv 0)) (Zd (Xi (K:=K) (pv 0)) Zj)))))),[],?_⟩;unfold f_QL;exact(Z4 (Vy (Ze (Xn T.fl_homes (Zc 0)) (Ze (Xn T.fl_weights (Zc 0)) (Ze (Xn T.fl_ways (Zc 0)) Zk)))))
theorem ZkP(T:Txt K mg t):FnOk P w K mg base CX0 5 t.a_QT t.d_QT ["script"] (spD ⟨t.c,K⟩ 1 Jt):=by
 have G_QN:=(ZgY (P:=P) (w:=w) (base:=base) T).mono (k:=4) (by decide);have G_QH:=(ZkI (P:=P) (w:=w) (base:=base) T).mono (k:=4) (by decide);have G_QC:=(ZkN (P:=P) (w:=w) (base:=base) T).mono (k:=4) (by decide);have G_QA:=(ZgZ (P:=P) (w:=w) (base:=base) T).mono (k:=4) (by decide);have G_QD:=(ZkH (P:=P) (w:=w) (base:=base) T).mono (k:=4) (by decide)
 have G_QE:=(ZkL (P:=P) (w:=w) (base:=base) T).mono (k:=4) (by decide);have G_QF:=(ZkM (P:=P) (w:=w) (base:=base) T).mono (k:=4) (by decide);have G_QK:=(ZkK (P:=P) (w:=w) (base:=base) T).mono (k:=4) (by decide);have G_QL:=(ZkO (P:=P) (w:=w) (base:=base) T).mono (k:=4) (by decide);have G_QO:=(ZkG (P:=P) (w:=w) (base:=base) T).mono (k:=4) (by decide)
 have G_QR:=(ZkC (P:=P) (w:=w) (base:=base) T).mono (k:=4) (by decide);have G_QS:=(ZkB (P:=P) (w:=w) (base:=base) T).mono (k:=4) (by decide);refine YH (φ:=f_QT) T.f_QT Zkw (by conv=>lhs;whnf) (by conv=>lhs;whnf) (λcdv A outer s H E hr => ?_) rfl rfl;refine⟨_,(Zp (ZR (i:=1) XD (by rfl) (by first|exact Or.inl rfl|exact Or.inr rfl) (ZD (Yj (K:=K)) Zx (ZD Y1 (Yd (G_QA) hr (by rfl) T.g_QA T.k_QA T.b_QA .nil Z3 (Zd (pv 0) (Zd Zx Zj))) Zx)))
 (Zp (ZR (i:=2) XD (by rfl) (by first|exact Or.inl rfl|exact Or.inr rfl) (Yd (G_QO) hr (by rfl) T.g_QO T.k_QO T.b_QO .nil Z3 (Zd (pv 0) (Zd Zx (Zd (pv 1) Zj)))))
 (Zp (UM (pv 2) (US (K:=K) (n:=3) (Y8 (ZJ (i:=3) XD) (Y8 (ZJ (i:=4) XD) (Y8 (ZJ (i:=5) XD) UL)))))
 (Zp (ZR (i:=6) XD (by rfl) (by first|exact Or.inl rfl|exact Or.inr rfl) (Yd (G_QD) hr (by rfl) T.g_QD T.k_QD T.b_QD .nil Z3 (Zd (pv 0) (Zd (pv 2) Zj))))
 (Zp (ZR (i:=7) XD (by rfl) (by first|exact Or.inl rfl|exact Or.inr rfl) (Yd (G_QR) hr (by rfl) T.g_QR T.k_QR T.b_QR .nil Z3 (Zd (pv 6) Zj)))
 (Zp (YO (PW.pt (QJ (Z7 (XZ (cA:=⟨t.c,K⟩) (hr.units)) (Yd (G_QL) hr (by rfl) T.g_QL T.k_QL T.b_QL .nil Z3 (Zd (pv 7) Zj)) (Vv (Zd (pv 3) (Zd (Yq (Xj (K:=K)) (by rfl) T.n_tuple boot_tuple (Zd (Xh (by rfl) (CompSc.mk' (tn:=["home"]) (cn:=[]) (js:=[]) (osc:=defScope XB) (oN:=["script", "n", "told", "homes", "weights", "ways", "web", "flat", "place", "picks", "kept", "found", "due", "row"]) (by rfl) (by rfl) (by rfl) (by decide +kernel)) (Yt (K:=K) (pv 3)) (λC s₂ H₂ fp=>ZJ (i:=0) ZlV) (λC s₂ H₂ fp=>YQ) (λC s₂ H₂ fp=>Zx)) Zj)) (Zd (pv 5) Zj)))) (Yb _)) (JO (Z7 (XZ (cA:=⟨t.c,K⟩) (hr.units)) (Yd (G_QL) hr (by rfl) T.g_QL T.k_QL T.b_QL .nil Z3 (Zd (pv 6) Zj)) (pv 2) (Yb _))))) (ZG (Z0 Vt)) YN)
 (Zp (ZR (i:=8) XD (by rfl) (by first|exact Or.inl rfl|exact Or.inr rfl) (Yd (G_QF) hr (by rfl) T.g_QF T.k_QF T.b_QF .nil Z3 (Zd (pv 4) (Zd (pv 5) Zj))))
 (Zp (YO (Zf1 (ZiU (pv 8))) (ZG (Z0 (JY (Uc (cA:=⟨t.c,K⟩) (hr.units)) (ZT (Zgm (K:=K)) (by rfl) T.n_max boot_max (Zd (pv 4) Zj)) (ZT (Zgn (K:=K)) (by rfl) T.n_min boot_min (Zd (pv 4) Zj)) (Yb _)))) YN)
 (Zp (ZR (i:=9) XD (by rfl) (by first|exact Or.inl rfl|exact Or.inr rfl) (Yd (G_QE) hr (by rfl) T.g_QE T.k_QE T.b_QE .nil Z3 (Zd (pv 4) (Zd (pv 5) (Zd (pv 8) (Zd (pv 1) Zj))))))
 (Zp (ZR (i:=10) XD (by rfl) (by first|exact Or.inl rfl|exact Or.inr rfl) (Yq (Uk (K:=K)) (by rfl) T.n_list boot_list (Zd (pv 9) Zj)))
 (Zp (ZR (i:=11) XD (by rfl) (by first|exact Or.inl rfl|exact Or.inr rfl) (Yd (G_QS) hr (by rfl) T.g_QS T.k_QS T.b_QS .nil Z3 (Zd (pv 6) (Zd (pv 1) (Zd (pv 8) (Zd (pv 10) Zj))))))
 (Zp (YO (PW.pt (QJ (Z7 (XZ (cA:=⟨t.c,K⟩) (hr.units)) (pv 10) (pv 9) (Yb _)) (QJ (Z7 (XZ (cA:=⟨t.c,K⟩) (hr.units)) (Yd (G_QL) hr (by rfl) T.g_QL T.k_QL T.b_QL .nil Z3 (Zd (pv 6) Zj)) (pv 2) (Yb _)) (JO (Zf2 (QH (ZT (Zdq (K:=K)) (by rfl) T.n_isinstance boot_isinstance (Zd (pv 11) (Zd (Zg6 (v:=.ref (t.c "Web")) (by rfl) T.g_Web (by rfl)) Zj))))))))) (ZG (Z0 Vt)) YN)
 (Zp (ZR (i:=12) XD (by rfl) (by first|exact Or.inl rfl|exact Or.inr rfl) (Yd (G_QC) hr (by rfl) T.g_QC T.k_QC T.b_QC .nil Z3 (Zd (pv 2) (Zd (pv 8) (Zd (pv 9) (Zd (pv 1) Zj))))))
 (Zp (YO (PW.pt (QJ (Z7 (XZ (cA:=⟨t.c,K⟩) (hr.units)) (Yd (G_QL) hr (by rfl) T.g_QL T.k_QL T.b_QL .nil Z3 (Zd (pv 11) Zj)) (pv 12) (Yb _)) (JO (Z7 (XZ (cA:=⟨t.c,K⟩) (hr.units)) (Zav (cA:=⟨t.c,K⟩) (tab:=Vk) (m:="many") ⟨⟨t.a_QN,t.d_QN,["self"],T.cl_Web,T.me_Web_many,G_QN,T.b_QN⟩,trivial⟩ hr (pv 11)) (ZD (Yj (K:=K)) (ZT (YA (K:=K)) (by rfl) T.n_len boot_len (Zd (pv 3) Zj)) Zx) (Yb _))))) (ZG (Z0 Vt)) YN)
 (Zp ((Y0 PassesOwn.never (by rfl) (Yt (K:=K) (Xi (K:=K) (pv 11))) (ZJ (i:=13) XD) (ZG (YO (Z7 (XZ (cA:=⟨t.c,K⟩) (hr.units)) (ZeQ (K:=K) (by rfl) hr.units (by rfl) T.n_len (by rfl) T.n_set (Zd (pv 13) Zj)) (ZT (YA (K:=K)) (by rfl) T.n_len boot_len (Zd (pv 13) Zj)) (Yb _)) (ZG (Z0 Vt)) YN))))
 (ZG (Z0 (Zf3 (Yd (G_QH) hr (by rfl) T.g_QH T.k_QH T.b_QH .nil Z3 (Zd (pv 12) (Zd (pv 1) Zj))) (Zf3 (Yd (G_QK) hr (by rfl) T.g_QK T.k_QK T.b_QK .nil Z3 (Zd (pv 12) Zj)) (ZiV (JY (Uc (cA:=⟨t.c,K⟩) (hr.units)) (ZT (Zgp (K:=K)) (by rfl) T.n_sum boot_sum (Zd (Zv (Zw (K:=K)) (pv 12) Zx (λ_ _=>rfl)) Zj)) (ZT (Zgp (K:=K)) (by rfl) T.n_sum boot_sum (Zd (pv 4) Zj)) (Yb _)))))))))))))))))))))),[],?_⟩
 unfold f_QT;exact(Zz (show VS _ _ [] _ _ _ _ from(ZX 1 (Zh YI (Zo (d:=(.int 1)) (by rfl) (by rfl)) (Zh Y5 (Ye [] (by rfl) (Ze (Zc 0) (Ze (Zo (d:=(.int 0)) (by rfl) (by rfl)) Zk))) (Zo (d:=(.int 6)) (by rfl) (by rfl))))))
 (Zz (show VS _ _ [] _ _ _ _ from(ZX 2 (Ye [] (by rfl) (Ze (Zc 0) (Ze (Zo (d:=(.int 2)) (by rfl) (by rfl)) (Ze (Zc 1) Zk))))))
 (Zz (ZbV (Zc 2) (UX (Xc 3 (by rfl) (by rfl) (Xc 4 (by rfl) (by rfl) (Xc 5 (by rfl) (by rfl) UW)))))
 (Zz (show VS _ _ [] _ _ _ _ from(ZX 6 (Ye [] (by rfl) (Ze (Zc 0) (Ze (Zc 2) Zk)))))
 (Zz (show VS _ _ [] _ _ _ _ from(ZX 7 (Ye [] (by rfl) (Ze (Zc 6) Zk))))
 (Zz (YY (QW (Z8 (Zh X0 (Ye [] (by rfl) (Ze (Zc 7) Zk)) (Vy (Ze (Zc 3) (Ze (Xl (Ze (VF.cl (Yw (by rfl) (YS (Zc 3)) (Z2 0) YR (Zo (d:=(.int 1)) (by rfl) (by rfl)))) Zk)) (Ze (Zc 5) Zk)))))) (Z8 (Zh X0 (Ye [] (by rfl) (Ze (Zc 6) Zk)) (Zc 2)))) (Z4 (Zo (d:=(.bl false)) (by rfl) (by rfl))) YX)
 (Zz (show VS _ _ [] _ _ _ _ from(ZX 8 (Ye [] (by rfl) (Ze (Zc 4) (Ze (Zc 5) Zk)))))
 (Zz (YY (UU (Zjb (Zc 8))) (Z4 (Zh Ud (ZZ ZdX (Ze (Zc 4) Zk)) (ZZ ZdY (Ze (Zc 4) Zk)))) YX)
 (Zz (show VS _ _ [] _ _ _ _ from(ZX 9 (Ye [] (by rfl) (Ze (Zc 4) (Ze (Zc 5) (Ze (Zc 8) (Ze (Zc 1) Zk)))))))
 (Zz (show VS _ _ [] _ _ _ _ from(ZX 10 (VF.cl (Ul (Or.inl rfl) (Ze (Zc 9) Zk)))))
 (Zz (show VS _ _ [] _ _ _ _ from(ZX 11 (Ye [] (by rfl) (Ze (Zc 6) (Ze (Zc 1) (Ze (Zc 8) (Ze (Zc 10) Zk)))))))
 (Zz (YY (QW (Z8 (Zh X0 (Zc 10) (Zc 9))) (QW (Z8 (Zh X0 (Ye [] (by rfl) (Ze (Zc 6) Zk)) (Zc 2))) (Zgd (UU (Zdr (λ_ h=>h) T.isi_Web (Zc 11)))))) (Z4 (Zo (d:=(.bl false)) (by rfl) (by rfl))) YX)
 (Zz (show VS _ _ [] _ _ _ _ from(ZX 12 (Ye [] (by rfl) (Ze (Zc 2) (Ze (Zc 8) (Ze (Zc 9) (Ze (Zc 1) Zk)))))))
 (Zz (YY (QW (Z8 (Zh X0 (Ye [] (by rfl) (Ze (Zc 11) Zk)) (Zc 12))) (Z8 (Zh X0 (ZbQ (Zc 11) Zk) (Zh YI (ZZ YB (Ze (Zc 3) Zk)) (Zo (d:=(.int 1)) (by rfl) (by rfl)))))) (Z4 (Zo (d:=(.bl false)) (by rfl) (by rfl))) YX)
 (Zz (X2 (YS (Xn T.fl_ways (Zc 11))) (Z2 13) (YY (Z8 (Zh X0 (ZZ ZeR (Ze (Zc 13) Zk)) (ZZ YB (Ze (Zc 13) Zk)))) (Z4 (Zo (d:=(.bl false)) (by rfl) (by rfl))) YX))
 (Z4 (Zge (Ye [] (by rfl) (Ze (Zc 12) (Ze (Zc 1) Zk))) (Zge (Ye [] (by rfl) (Ze (Zc 12) Zk)) (Zh Ud (ZZ ZdZ (Ze (Zh Zy (Zc 12) (Zo (d:=(.int 1)) (by rfl) (by rfl))) Zk)) (ZZ ZdZ (Ze (Zc 4) Zk)))))))))))))))))))))
end
end K37
namespace K37
open DL L2
theorem Qa(ns:List Int)(k:Nat):Yx [.lst (ns.map D.int),.int k]=some (.int (ns.getD k 0)):=by
 by_cases h:k<ns.length
 · have hz : atI (ns.map D.int) (k : Int) = some (.int (ns.getD k 0)) := by
    refine QO ?_;rw [List.getElem?_map,List.getElem?_eq_getElem h,List.getD_eq_getElem?_getD,List.getElem?_eq_getElem h];rfl
   simp [Yx,f_QA,h,hz,DL.run,DL.runI,Zg,sIf,ZE,Ziq,sNext,Zl,Zir,YG,Zit,Zgh,xB,bD,Vg,YW,xOr,Za,eC,eOp,Vh,eOr,Zlk,eIf,UV,Zin,Qn,Zgf,eUn,Uf,eNil,Zb,ZS,Yl,eCB,lenD,Zll,Zlm,ZB,XJ,XM,Yg,eSl,xP,xNoP,addD,subD,Zli,Zim,Zlj,Yu,ixD,isD,eBM,X4,UY,kind,plainKinds,ZbX,ZbY,Zd5,Zdv,Zdw,Zdx,Zd6,Zd7,Zgw,Zgx,Zgy,List.lookup,Qf,CMul,PySem.sizeLine_eq,List.replicate]
 · have hz:ns.getD k 0=0:=by rw [List.getD_eq_getElem?_getD,List.getElem?_eq_none (by omega)];rfl
   simp [Yx,f_QA,h,hz,DL.run,DL.runI,Zg,sIf,ZE,Ziq,sNext,Zl,Zir,YG,Zit,Zgh,xB,bD,Vg,YW,xOr,Za,eC,eOp,Vh,eOr,Zlk,eIf,UV,Zin,Qn,Zgf,eUn,Uf,eNil,Zb,ZS,Yl,eCB,lenD,Zll,Zlm,ZB,XJ,XM,Yg,eSl,xP,xNoP,addD,subD,Zli,Zim,Zlj,Yu,ixD,isD,eBM,X4,UY,kind,plainKinds,ZbX,ZbY,Zd5,Zdv,Zdw,Zdx,Zd6,Zd7,Zgw,Zgx,Zgy,List.lookup,Qf,CMul,PySem.sizeLine_eq,List.replicate]
abbrev nD(a:Nat):D := .int (a:Int)
abbrev AD(l:List Nat):D := .lst (l.map nD)
abbrev IL(w:List Int):D := .lst (w.map D.int)
abbrev PM(acc:List (List Nat)):D := .lst (acc.map AD)
theorem Za7{ε:DL.Env->Option D}{δ:DL.Env}{xs:List D}(h:ε δ=some (.lst xs)):ZH ε δ=some xs:=by
 unfold ZH;rw [h]
theorem ZhP{a b:DL.Env->Option Bool}{δ:DL.Env}{x y:Bool}(h1:a δ=some x)(h2:b δ=some y):YW a b δ=some (x&&y):=by
 cases x with
 |true=>exact(UA h1 h2).trans (by rw [Bool.true_and])
 |false=>exact(Jc h1).trans (by rw [Bool.false_and])
theorem UD{α:Type}{γ:D->DL.Env->Option DL.Env}{φ:DL.Env->Option Out}(g:α->D)(I:List α->DL.Env->Prop)(all:List α)(step:∀(dn:List α)(x:α)(r:List α)(δ:DL.Env),dn++x::r=all->I dn δ->∃δ1,γ (g x) δ=some δ1/\∃δ2,φ δ1=some (.nx δ2)/\I (dn++[x]) δ2):∀(rest dn:List α)(δ:DL.Env),dn++rest=all->I dn δ->∃δ',ZV γ φ (rest.map g) δ=some (.nx δ')/\I all δ'
 | [],dn,δ,e,h=>⟨δ,rfl,by rw [<-e,List.append_nil];exact h⟩
 |x::rest,dn,δ,e,h=>by
  obtain⟨δ1,h1,δ2,h2,h3⟩:=step dn x rest δ e h;obtain⟨δ',h4,h5⟩:=UD g I all step rest (dn++[x]) δ2 (by rw [List.append_assoc];exact e) h3;refine⟨δ',?_,h5⟩;rw [List.map_cons];unfold ZV;rw [h1];dsimp only;rw [h2];exact h4
theorem YL{α:Type}{γ:D->DL.Env->Option DL.Env}{ε:DL.Env->Option D}{δ0:DL.Env}(g f:α->D):∀(xs:List α),(∀x∈xs,∃δ1,γ (g x) δ0=some δ1/\ε δ1=some (f x))->Ym γ (λ_=>some true) ε δ0 (xs.map g)=some (xs.map f)
 | [],_=>rfl
 |x::xs,h=>by
  obtain⟨δ1,h1,h2⟩:=h x List.mem_cons_self;have ih:=YL g f xs λy hy=>h y (List.mem_cons_of_mem _ hy)
  rw [List.map_cons,List.map_cons];unfold Ym;rw [h1];dsimp only;rw [h2,ih]
theorem ZaA{α:Type}{γ:D->DL.Env->Option DL.Env}{τ:DL.Env->Option Bool}{ε:DL.Env->Option D}{δ0:DL.Env}(g:α->D)(p:α->Bool):∀(xs:List α),(∀x∈xs,∃δ1,γ (g x) δ0=some δ1/\τ δ1=some (p x)/\ε δ1=some (g x))->Ym γ τ ε δ0 (xs.map g)=some ((xs.filter p).map g)
 | [],_=>rfl
 |x::xs,h=>by
  obtain⟨δ1,h1,h2,h3⟩:=h x List.mem_cons_self;have ih:=ZaA g p xs λy hy=>h y (List.mem_cons_of_mem _ hy)
  rw [List.map_cons];unfold Ym;rw [h1];dsimp only;rw [h2];cases hp:p x with
  |false=>rw [List.filter_cons_of_neg (by simp [hp])];exact ih
  |true=>
   rw [List.filter_cons_of_pos hp,List.map_cons];dsimp only;rw [h3,ih]
theorem ZhQ{i:Nat}{φ:DL.Env->Option Out}{δ δ':DL.Env}(h:φ (δ.set i none)=some (.nx δ'))(hi:δ'[i]? = some none):Xo i φ δ=some (.nx (δ'.set i ((δ[i]?).getD none))):=by
 unfold Xo;rw [h];dsimp only;rw [hi]
theorem Zb1{i:Nat}{φ:DL.Env->Option Out}{δ δ0 δ' δ'':DL.Env}(e:δ.set i none=δ0)(h:φ δ0=some (.nx δ'))(hi:δ'[i]? = some none)(hr:δ'.set i ((δ[i]?).getD none)=δ''):Xo i φ δ=some (.nx δ''):=by
 subst e hr;exact ZhQ h hi
theorem Zjp{i:Nat}{ε:DL.Env->Option D}{δ:DL.Env}{d:D}(h:ε δ=some d)(hi:i<δ.length):U2 i ε δ=some (.nx (δ.set i (some d))):=by
 unfold U2;rw [h];exact if_pos hi
abbrev tkK(tk:List Nat):List Key:=tk.map λt:Nat=>(.inl (t:Int):Key)
def TK(tk:List Nat):D := .dct (tkK tk) (tk.map λ_ => .bl true)
theorem Zjq{u t:Nat}(h:u≠t):¬((.inl (u:Int):Key) = .inl (t:Int)):=λz=>by
 have:=Sum.inl.inj z;omega
theorem Jw(t:Nat):∀tk:List Nat,XQ (.inl (t:Int)) (tkK tk)=decide (t∈tk)
 | []=>by simp [XQ,tkK]
 |u::tk=>by
  show(decide ((.inl (u:Int):Key) = .inl (t:Int))||XQ (.inl (t:Int)) (tkK tk))=_;rw [Jw t tk]
  by_cases h:u=t
  · subst h
    simp
  · have h2:¬t=u:=λz=>h z.symm
    simp [h2,Zjq h]
theorem ZfE(t:Nat)(tk:List Nat):inK true (nD t) (TK tk)=some (.bl (!decide (t∈tk))):=by
 show some (D.bl (true != XQ (.inl (t:Int)) (tkK tk)))=_;rw [Jw];cases decide (t∈tk)<;>rfl
theorem Zbz(k:Key):∀tk:List Nat,XO k (D.bl true) (tkK tk) (tk.map λ_=>D.bl true)=tk.map λ_=>D.bl true
 | []=>rfl
 |u::tk=>by
  show(if(.inl (u:Int):Key)=k then D.bl true else D.bl true)::XO k (D.bl true) (tkK tk) (tk.map λ_=>D.bl true)=_;rw [Zbz k tk,ite_self];rfl
def ins(tk:List Nat)(t:Nat):List Nat:=if t∈tk then tk else tk++[t]
theorem ZfF{i:Nat}{κ ε:DL.Env->Option D}{δ:DL.Env}{l:List Nat}{t:Nat}(f:Nat->D)(h1:Za i δ=some (.dct (tkK l) (l.map f)))(h2:κ δ=some (nD t))(h3:ε δ=some (f t))(hn:t∉l)(hl:l.length<=1000):Vj i κ ε δ=some (.nx (δ.set i (some (.dct (tkK (l++[t])) ((l++[t]).map f))))):=by
 unfold Vj;rw [h1,h2,h3];show(if(tkK l).length<PySem.sizeLine then some (Out.nx (δ.set i (some (Uo (tkK l) (l.map f) (.inl (t:Int)) (f t)))))else none)=_;rw [if_pos (by rw [List.length_map,PySem.sizeLine_eq];omega)];unfold Uo;rw [Jw,decide_eq_false hn,if_neg (by simp)];unfold tkK;rw [List.map_append,List.map_append];rfl
theorem ZfG{i:Nat}{κ:DL.Env->Option D}{δ:DL.Env}{tk:List Nat}{t:Nat}(h1:Za i δ=some (TK tk))(h2:κ δ=some (nD t))(hl:tk.length<=1000):Vj i κ (eC (.bl true)) δ=some (.nx (δ.set i (some (TK (ins tk t))))):=by
 by_cases h:t∈tk
 · unfold Vj
   rw [h1,h2];show(if(tkK tk).length<PySem.sizeLine then some (Out.nx (δ.set i (some (Uo (tkK tk) (tk.map λ_ => .bl true) (.inl (t:Int)) (.bl true)))))else none)=_;rw [if_pos (by rw [List.length_map,PySem.sizeLine_eq];omega)];unfold Uo ins;rw [Jw,decide_eq_true h,if_pos rfl,if_pos h,Zbz];rfl
 · refine(ZfF (l:=tk) (λ_=>D.bl true) h1 h2 rfl h hl).trans ?_
   unfold ins;rw [if_neg h];rfl
theorem Zg0(t:Nat):∀P:List Nat,inV (.int (t:Int)) ((P.map nD).map val)=decide (t∈P)
 | []=>by simp [inV]
 |p::P=>by
  have ih:=Zg0 t P;unfold inV at ih ⊢;rw [List.map_cons,List.map_cons,List.any_cons,ih];show(((p:Int) == (t:Int))||decide (t∈P))=_
  by_cases e:p=t
  · subst e
    simp
  · have e2:¬t=p:=λz=>e z.symm
    have e3:((p:Int) == (t:Int))=false:=by simp;omega
    rw [e3];simp [e2]
theorem ZjR(P:List Nat):(P.map nD).all ZA=true:=by
 rw [List.all_map];exact List.all_eq_true.mpr λx _=>rfl
theorem Zg1(t:Nat)(P:List Nat):inD true (nD t) (AD P)=some (.bl (!decide (t∈P))):=by
 show(if(ZA (.int (t:Int))&&(P.map nD).all ZA)=true then some (D.bl (if true=true then !(inV (.int (t:Int)) ((P.map nD).map val))else inV (.int (t:Int)) ((P.map nD).map val)))else none)=_;rw [ZjR,if_pos (show(ZA (.int (t:Int))&&true)=true from rfl),if_pos rfl,Zg0]
theorem ZkQ(t:Nat)(P:List Nat):inD false (nD t) (AD P)=some (.bl (decide (t∈P))):=by
 show(if(ZA (.int (t:Int))&&(P.map nD).all ZA)=true then some (D.bl (if false=true then !(inV (.int (t:Int)) ((P.map nD).map val))else inV (.int (t:Int)) ((P.map nD).map val)))else none)=_;rw [ZjR,if_pos (show(ZA (.int (t:Int))&&true)=true from rfl),if_neg Bool.false_ne_true,Zg0]
theorem ZkR(q:List Nat):AD q=IL (q.map λa=>((a:Nat):Int)):=by
 unfold AD IL;rw [List.map_map];rfl
theorem ZeS(q:List Nat):PySem.SeqAt.shaped (toP (AD q))=true:=by rw [ZkR];exact Zcg _
end K37
namespace K37
open DL L2
abbrev Way:=List Nat×Nat
def wyD(w:Way):D := .tup [.str w.1,nD w.2]
def rowD(r:List Way):D := .tup (r.map wyD)
def YD(Y:List (List Way)):D := .tup (Y.map rowD)
def WD(W:List Nat):D := .tup (W.map nD)
def HD(hs:List Int):D := .tup (hs.map D.int)
structure Ok(n m:Nat)(W:List Nat)(hs:List Int)(Y:List (List Way)):Prop where
 m1:1<=m
 n1:1<=n
 n6:n<=6
 lw:W.length=m
 lh:hs.length=m
 ly:Y.length=m
 w1:∀w∈W,1<=w/\w<=5
 sw:W.sum<=25
 rs:∀r∈Y,(r.map λp=>W.getD p.2 0).sum<=150
 tg:∀r∈Y,∀p∈r,p.2<m
 cd:∀r∈Y,∀p∈r,p.1.length=3/\Xf p.1
 nd:∀r∈Y,r.Nodup
 st:∀S:Nat->Prop,(∀k<m,S k->∀p∈Y.getD k [],S p.2)->∀a<m,S a->∀b<m,S b
 br:∀k<m,n*W.getD k 0<=((Y.getD k []).map λp=>W.getD p.2 0).sum
theorem Zdy:∀l:List Nat,(∀x∈l,1<=x)->l.length<=l.sum
 | [],_=>Nat.le_refl _
 |a::l,h=>by
  rw [List.length_cons,List.sum_cons];have h1:=Zdy l λx hx=>h x (List.mem_cons_of_mem _ hx)
  have h2:=h a List.mem_cons_self;omega
section
variable{n m:Nat}{W:List Nat}{hs:List Int}{Y:List (List Way)}
theorem Ok.row(h:Ok n m W hs Y){k:Nat}(hk:k<m):Y[k]? = some (Y.getD k [])/\Y.getD k []∈Y:=by
 have hl:k<Y.length:=by rw [h.ly];exact hk
 rw [List.getD_eq_getElem?_getD,List.getElem?_eq_getElem hl];exact⟨rfl,List.getElem_mem hl⟩
theorem Ok.wt(h:Ok n m W hs Y){k:Nat}(hk:k<m):W[k]? = some (W.getD k 0)/\W.getD k 0∈W:=by
 have hl:k<W.length:=by rw [h.lw];exact hk
 rw [List.getD_eq_getElem?_getD,List.getElem?_eq_getElem hl];exact⟨rfl,List.getElem_mem hl⟩
theorem Ok.m5(h:Ok n m W hs Y):m<=25:=by
 have h1:=Zdy W λx hx=>(h.w1 x hx).1
 have h2:=h.sw;rw [h.lw]at h1;omega
theorem Ok.rl(h:Ok n m W hs Y):∀r∈Y,r.length<=150:=λr hr=>by
 have h1:=Zdy (r.map λp=>W.getD p.2 0) λx hx=>by
  obtain⟨p,hp,rfl⟩:=List.mem_map.mp hx;exact(h.w1 _ (h.wt (h.tg r hr p hp)).2).1
 rw [List.length_map]at h1;exact Nat.le_trans h1 (h.rs r hr)
theorem Ok.ne(h:Ok n m W hs Y){k:Nat}(hk:k<m):∃p,p∈Y.getD k []:=by
 have h1:=h.br k hk;have h2:=Nat.mul_le_mul h.n1 (h.w1 _ (h.wt hk).2).1;cases hz:Y.getD k []with
 |nil=>
  rw [hz]at h1;exact absurd (show 1*1<=0 from Nat.le_trans h2 h1) (by decide)
 |cons p r=>exact⟨p,List.mem_cons_self⟩
theorem Ut(h:Ok n m W hs Y){k:Nat}(hk:k<m):ixD (YD Y) (nD k)=some (rowD (Y.getD k [])):=ix_tup (by rw [List.getElem?_map,(h.row hk).1];rfl)
theorem X8(h:Ok n m W hs Y){k:Nat}(hk:k<m):ixD (WD W) (nD k)=some (nD (W.getD k 0)):=ix_tup (by rw [List.getElem?_map,(h.wt hk).1];rfl)
theorem V5(w:Way):ixD (wyD w) (.int 1)=some (nD w.2):=ix_tup (a:=1) rfl
theorem Uu{α:Type} [BEq α] [LawfulBEq α]:∀(l S:List α),l.Nodup->(∀x∈l,x∈S)->l.length<=S.length
 | [],_,_,_=>Nat.zero_le _
 |x::l,S,hn,hs=>by
  have hx:=hs x List.mem_cons_self;rw [List.nodup_cons]at hn;have:=Uu l (S.erase x) hn.2 λy hy=>(List.mem_erase_of_ne (λ(z:y=x)=>hn.1 (by rw [<-z];exact hy))).mpr (hs y (List.mem_cons_of_mem _ hy))
  rw [List.length_erase_of_mem hx]at this;have h0:=List.length_pos_of_mem hx;rw [List.length_cons];omega
noncomputable def cB:DL.Env->Option Out:=(sIf (xB (eOp (inK true) (eOp ixD (Za 4) (eC (.int 1))) (Za 2))) (Zg (Vj 2 (eOp ixD (Za 4) (eC (.int 1))) (eC (.bl true))) (Yr 3 (eOp ixD (Za 4) (eC (.int 1))))) sNext)
noncomputable def cT:DL.Env->Option Bool:=(xB (eOp (Yu λi j=>decide (j<i)) (eCB lenD (Zb (Za 3) eNil)) (eC (.int 0))))
noncomputable def cW:DL.Env->Option Out:=(U5 (U6 3 (Za 0)) (Zm 4) cB)
theorem ZhR:f_QB=Zg (Zl 2 (eC (.dct [] []))) (Zg (Zl 3 (ZS (Zb (Za 1) eNil))) (Zg (X3 cT cW) (ZE (Za 2)))):=rfl
abbrev CE(Y:List (List Way))(a:Nat)(R Q:List Nat)(v4:Option D):DL.Env:=[some (YD Y),some (nD a),some (TK R),some (AD Q),v4]
def YT(R:List Nat):List Way->List Nat
 | []=>[]
 |w::r=>if w.2∈R then YT R r else w.2::YT (R++[w.2]) r
theorem Zam:∀(r:List Way)(R:List Nat),R.Nodup->(R++YT R r).Nodup/\(∀x,x∈R++YT R r ↔ x∈R\/∃w∈r,w.2=x)
 | [],R,h=>⟨by simpa [YT]using h,λx=>by simp [YT]⟩
 |w::r,R,h=>by
  unfold YT
  by_cases hw:w.2∈R
  · rw [if_pos hw]
    obtain⟨h1,h2⟩:=Zam r R h;refine⟨h1,λx => ?_⟩;rw [h2];constructor
    · rintro(z|⟨u,hu,e⟩)
      · exact .inl z
      · exact .inr ⟨u,List.mem_cons_of_mem _ hu,e⟩
    · rintro(z|⟨u,hu,e⟩)
      · exact .inl z
      · rcases List.mem_cons.mp hu with rfl|hu
        · exact .inl (e▸hw)
        · exact .inr ⟨u,hu,e⟩
  · rw [if_neg hw]
    have hn:(R++[w.2]).Nodup:=by
     rw [List.nodup_append];exact⟨h,by simp,λa ha b hb z=>hw (by rw [<-List.mem_singleton.mp hb,<-z];exact ha)⟩
    obtain⟨h1,h2⟩:=Zam r (R++[w.2]) hn;rw [List.append_assoc]at h1 h2;refine⟨h1,λx => ?_⟩;have e0:R++w.2::YT (R++[w.2]) r=R++([w.2]++YT (R++[w.2]) r):=rfl;rw [e0,h2,List.mem_append,List.mem_singleton];constructor
    · rintro((z|z)|⟨u,hu,e⟩)
      · exact .inl z
      · exact .inr ⟨w,List.mem_cons_self,z.symm⟩
      · exact .inr ⟨u,List.mem_cons_of_mem _ hu,e⟩
    · rintro(z|⟨u,hu,e⟩)
      · exact .inl (.inl z)
      · rcases List.mem_cons.mp hu with rfl|hu
        · exact .inl (.inr e.symm)
        · exact .inr ⟨u,hu,e⟩
theorem ZjS(a:Nat):∀(r:List Way)(R Q:List Nat)(v4:Option D),R.length+r.length<=300->Q.length+r.length<=300->∃w4,ZV (Zm 4) cB (r.map wyD) (CE Y a R Q v4)=some (.nx (CE Y a (R++YT R r) (Q++YT R r) w4))
 | [],R,Q,v4,_,_=>⟨v4,by unfold YT;rw [List.append_nil,List.append_nil];rfl⟩
 |w::r,R,Q,v4,h1,h2=>by
  rw [List.length_cons]at h1 h2;have e0:(eOp ixD (Za 4) (eC (.int 1))) (CE Y a R Q (some (wyD w)))=some (nD w.2):=(Zi (x:=wyD w) (y:=.int 1) rfl rfl).trans (V5 w);have e1:xB (eOp (inK true) (eOp ixD (Za 4) (eC (.int 1))) (Za 2)) (CE Y a R Q (some (wyD w)))=some (!decide (w.2∈R)):=ZY ((Zi (x:=nD w.2) (y:=TK R) e0 rfl).trans (ZfE w.2 R))
  by_cases hw:w.2∈R
  · obtain⟨w4,ih⟩:=ZjS a r R Q (some (wyD w)) (by omega) (by omega)
    refine⟨w4,?_⟩;rw [decide_eq_true hw]at e1;have e2:cB (CE Y a R Q (some (wyD w)))=some (.nx (CE Y a R Q (some (wyD w)))):=(YK e1).trans rfl;unfold YT;rw [if_pos hw,List.map_cons];unfold ZV;rw [show Zm 4 (wyD w) (CE Y a R Q v4)=some (CE Y a R Q (some (wyD w)))from rfl];dsimp only;rw [e2];exact ih
  · obtain⟨w4,ih⟩:=ZjS a r (R++[w.2]) (Q++[w.2]) (some (wyD w)) (by rw [List.length_append,List.length_singleton];omega) (by rw [List.length_append,List.length_singleton];omega)
    refine⟨w4,?_⟩;rw [decide_eq_false hw]at e1
    have t1:Vj 2 (eOp ixD (Za 4) (eC (.int 1))) (eC (.bl true)) (CE Y a R Q (some (wyD w)))=some (.nx (CE Y a (R++[w.2]) Q (some (wyD w)))):=by
     refine(ZfG (tk:=R) (t:=w.2) rfl e0 (by omega)).trans ?_;unfold ins;rw [if_neg hw];rfl
    have e0':(eOp ixD (Za 4) (eC (.int 1))) (CE Y a (R++[w.2]) Q (some (wyD w)))=some (nD w.2):=(Zi (x:=wyD w) (y:=.int 1) rfl rfl).trans (V5 w)
    have e2:cB (CE Y a R Q (some (wyD w)))=some (.nx (CE Y a (R++[w.2]) (Q++[w.2]) (some (wyD w)))):=by
     refine(X5 e1).trans ((Zn t1).trans ((Us (xs:=Q.map nD) (d:=nD w.2) rfl e0' (by rw [List.length_map];omega)).trans ?_));have em:Q.map nD++[nD w.2]=(Q++[w.2]).map nD:=by rw [List.map_append];rfl
     rw [em];rfl
    unfold YT;rw [if_neg hw,List.map_cons];unfold ZV;rw [show Zm 4 (wyD w) (CE Y a R Q v4)=some (CE Y a R Q (some (wyD w)))from rfl];dsimp only;rw [e2];rw [List.append_assoc,List.append_assoc]at ih;exact ih
theorem ZfH{j:Nat}{α:DL.Env->Option D}{δ:DL.Env}{x y:D}{xs ds:List D}(h1:α δ=some x)(h2:Za j δ=some (.lst (xs++[y])))(h3:ixD x y=some (.tup ds)):U6 j α δ=some (ds,δ.set j (some (.lst xs))):=by
 unfold U6;rw [h1,h2];dsimp only
 have e:(xs++[y])[(xs++[y]).length-1]? = some y:=by
  rw [List.length_append,List.length_singleton,Nat.add_sub_cancel,List.getElem?_append_right (Nat.le_refl _),Nat.sub_self];rfl
 rw [e];dsimp only;rw [show ZH (λ_=>ixD x y) []=some ds by unfold ZH;rw [h3],List.dropLast_concat]
theorem ZhS{ι:DL.Env->Option (List D×DL.Env)}{γ:D->DL.Env->Option DL.Env}{φ:DL.Env->Option Out}{δ δ':DL.Env}{xs:List D}{o:Out}(h1:ι δ=some (xs,δ'))(h2:ZV γ φ xs δ'=some o):U5 ι γ φ δ=some o:=by
 unfold U5;rw [h1];exact h2
structure CS(m a:Nat)(Y:List (List Way))(R Q:List Nat):Prop where
 nd:R.Nodup
 lt:∀x∈R,x<m
 ql:Q.length<=R.length+1
 sub:∀x∈Q,x<m
 cl:∀x,(x∈R\/x=a)->x∉Q->∀w∈Y.getD x [],w.2∈R
def cM(m:Nat):DL.Env->Nat
 | [_,_,some (.dct ks _),some (.lst ws),_]=>ws.length+2*(m-ks.length)
 |_=>0
theorem ZiG(a:Nat)(R Q:List Nat)(v4:Option D):cM m (CE Y a R Q v4)=Q.length+2*(m-R.length):=by
 show(Q.map nD).length+2*(m-(tkK R).length)=_;rw [List.length_map,List.length_map]
theorem Zdz{R:List Nat}(h:R.Nodup)(hl:∀x∈R,x<m):R.length<=m:=by
 have:=Uu R (List.range m) h λx hx=>List.mem_range.mpr (hl x hx)
 rwa [List.length_range]at this
theorem ZhT(h:Ok n m W hs Y){a:Nat}(ha:a<m):∃R,Qy [YD Y,nD a]=some (TK R)/\R.length=m:=by
 have hm5:=h.m5
 obtain⟨δ',h1,R,v4,e,hS⟩:=ZaY (τ:=cT) (φ:=cW) (λδ=>∃R Q v4,δ=CE Y a R Q v4/\CS m a Y R Q) (λδ=>∃R v4,δ=CE Y a R [] v4/\CS m a Y R []) (cM m) (by
  rintro δ ⟨R,Q,v4,rfl,hS⟩
  have ht:cT (CE Y a R Q v4)=some (decide ((0:Int)<(Q.length:Int))):=by
   refine ZY ((Zi (x:=.int ((Q.map nD).length:Int)) (y:=.int 0) ((ZF (Zf (x:=AD Q) rfl nil_of)).trans ZhO) rfl).trans ?_);rw [List.length_map];rfl
  rcases List.eq_nil_or_concat Q with hQ|⟨Q0,b,hQ⟩
  · subst hQ
    exact .inl ⟨ht,R,v4,rfl,hS⟩
  · rw [List.concat_eq_append]at hQ
    subst hQ;have hb:b<m:=hS.sub b (List.mem_append_right _ (List.mem_singleton.mpr rfl));have hrl:=h.rl _ (h.row hb).2;have hRl:=Zdz hS.nd hS.lt;have hql:=hS.ql;rw [List.length_append,List.length_singleton]at hql;obtain⟨w4,g⟩:=ZjS (Y:=Y) a (Y.getD b []) R Q0 v4 (by omega) (by omega);obtain⟨k1,k2⟩:=Zam (Y.getD b []) R hS.nd
    have k3:∀x∈R++YT R (Y.getD b []),x<m:=λx hx=>by
     rcases(k2 x).mp hx with z|⟨w,hw,e⟩
     · exact hS.lt x z
     · rw [<-e];exact h.tg _ (h.row hb).2 w hw
    have hRl2:=Zdz k1 k3;rw [List.length_append]at hRl2;refine .inr ⟨?_,CE Y a (R++YT R (Y.getD b [])) (Q0++YT R (Y.getD b [])) w4,ZhS (ZfH (x:=YD Y) (y:=nD b) (xs:=Q0.map nD) rfl ?_ (Ut h hb)) g,⟨_,_,_,rfl,⟨k1,k3,?_,?_,?_⟩⟩,?_⟩
    · rw [ht,List.length_append,List.length_singleton]
      exact congrArg some (decide_eq_true (by omega))
    · show some (AD (Q0++[b]))=_
      rw [AD,List.map_append];rfl
    · rw [List.length_append,List.length_append];omega
    · intro x hx
      rcases List.mem_append.mp hx with z|z
      · exact hS.sub x (List.mem_append_left _ z)
      · exact k3 x (List.mem_append_right _ z)
    · intro x hx hn w hw
      by_cases hxb:x=b
      · subst hxb
        exact(k2 w.2).mpr (.inr ⟨w,hw,rfl⟩)
      · have hn1:x∉Q0:=λz=>hn (List.mem_append_left _ z)
        have hn2:x∉YT R (Y.getD b []):=λz=>hn (List.mem_append_right _ z)
        have hx':x∈R\/x=a:=by
         rcases hx with z|z
         · rcases List.mem_append.mp z with z|z
           · exact .inl z
           · exact absurd z hn2
         · exact .inr z
        exact List.mem_append_left _ (hS.cl x hx' (λz=>by
         rcases List.mem_append.mp z with z|z
         · exact hn1 z
         · exact hxb (List.mem_singleton.mp z)) w hw)
    · rw [ZiG,ZiG,List.length_append,List.length_append,List.length_append,List.length_singleton]
      omega) (CE Y a [] [a] none) ⟨_,_,_,rfl,⟨List.nodup_nil,(λx z=>by cases z),Nat.le_refl _,(λx hx=>by rw [List.mem_singleton.mp hx];exact ha),λx hx hn=>by
    rcases hx with z|z
    · cases z
    · exact absurd (List.mem_singleton.mpr z) hn⟩⟩
 subst e;refine⟨R,YF (δ:=[some (YD Y),some (nD a),none,none,none]) rfl ?_,?_⟩
 · rw [ZhR,Zn (δ':=[some (YD Y),some (nD a),some (TK []),none,none]) (ZK rfl),Zn (δ':=CE Y a [] [a] none) (ZK (Xq (ds:=[nD a]) rfl (by show 1<=1000;decide))),Zn h1]
   exact Ys rfl
 · obtain⟨p0,hp0⟩:=h.ne ha
   have h0:p0.2∈R:=hS.cl a (.inr rfl) (by simp) p0 hp0;have all:=h.st (λx=>x∈R) (λk _ hk p hp=>hS.cl k (.inl hk) (by simp) p hp) p0.2 (hS.lt _ h0) h0;refine Nat.le_antisymm (Zdz hS.nd hS.lt) ?_;have:=Uu (List.range m) R List.nodup_range λk hk=>all k (List.mem_range.mp hk)
   rwa [List.length_range]at this
end
end K37
namespace K37
open DL L2
section
variable{n m:Nat}{W:List Nat}{hs:List Int}{Y:List (List Way)}
theorem eqZ(a b:Int):eqD (.int a) (.int b)=some (.bl (decide (a=b))):=by
 show some (D.bl (decide (V.int a=V.int b)))=_
 by_cases h:a=b<;>simp [h]
theorem neZ(a b:Int):neD (.int a) (.int b)=some (.bl (!decide (a=b))):=by
 unfold neD;rw [eqZ]
def tC:DL.Env->Option D:=(eCB ZO (Zb (Za 0) eNil))
theorem ZgA(ps:List Way)(hl:ps.length<=1000):UB [.lst (ps.map wyD)]=some (rowD ps):=by
 refine YF (δ:=[some (.lst (ps.map wyD))]) rfl ?_;refine(Zn ((YK (Jc (ZY (Jd (d:=.lst (ps.map wyD)) rfl rfl)))).trans rfl)).trans (Ys ?_);exact(ZF (Zf (Yp (δ0:=[none]) (xs:=ps.map wyD) rfl rfl (YL (ε:=tC) wyD wyD ps λp _=>⟨[some (wyD p)],rfl,(ZF (Zf (x:=wyD p) rfl nil_of)).trans rfl⟩) (by rw [List.length_map];omega)) nil_of)).trans rfl
def iC:DL.Env->Option D:=(X4 Qv (Za 0))
theorem ZaZ:∀ps:List Way,Ug (ps.map λ_=>D.bl true)=some (ps.map λ_=>true)
 | []=>rfl
 |p::ps=>by
  rw [List.map_cons,Ug,ZaZ ps];rfl
theorem ZgB:∀ps:List Way,(ps.map λ_=>true).all id=true
 | []=>rfl
 |p::ps=>by
  rw [List.map_cons,List.all_cons,ZgB ps];rfl
theorem Jx(ps:List Way)(hl:ps.length<=1000):UB [rowD ps]=some (rowD ps):=by
 refine YF (δ:=[some (rowD ps)]) rfl ?_
 have e:eCB (Qo λbs=>bs.all id) (Zb (ZC (ZH (Za 0)) (Zm 0) (λ_=>some true) iC 1 []) eNil) [some (rowD ps)]=some (.bl true):=by
  refine(ZF (Zf (Yp (δ0:=[none]) (xs:=ps.map wyD) rfl rfl (YL (ε:=iC) wyD (λ_ => .bl true) ps λp _=>⟨[some (wyD p)],rfl,Jd (d:=wyD p) rfl rfl⟩) (by rw [List.length_map];omega)) nil_of)).trans ?_;unfold Qo;dsimp only;rw [ZaZ];dsimp only;rw [ZgB]
 refine(U8 ((X5 (UA (ZY (Jd (d:=rowD ps) rfl rfl)) (ZY e))).trans (Ys rfl)))
noncomputable def kE:DL.Env->Option D:=(ZB 1 UB [] (Zb (Za 0) eNil))
def YM(W:List Nat)(hs:List Int)(Y:List (List Way)):D := .obj "Web" ["homes", "weights", "ways"] [HD hs,WD W,YD Y]
theorem Za8(f:List Way->D)(hf:∀r∈Y,UB [f r]=some (rowD r))(h0 h1 h2:D)(e0:ZO [h0]=some (HD hs))(e1:ZO [h1]=some (WD W))(e2:∀δ:DL.Env,ZH (λ_=>some h2) δ=some (Y.map f))(hl:Y.length<=100) :
 VU [.obj "Web" [] [],h0,h1,h2]=some (YM W hs Y):=by
 have he:∀x0,eCB ZO (Zb (ZC (ZH (Za 3)) (Zm 0) (λ_=>some true) kE 1 []) eNil) [x0,some h0,some h1,some h2]=some (YD Y):=λx0=>by
  refine(ZF (Zf (Yp (δ0:=[none]) (xs:=Y.map f) ?_ rfl (YL (ε:=kE) f rowD Y λa ha=>⟨[some (f a)],rfl,(Yh (n:=1) (Zf rfl nil_of) rfl).trans (hf a ha)⟩) (by rw [List.length_map];omega)) nil_of)).trans rfl;exact e2 []
 have hq:f_QP [some (.obj "Web" [] []),some h0,some h1,some h2]=some (.nx [some (YM W hs Y),some h0,some h1,some h2]):=by
  show Zg (YG 0 XR "homes" (eCB ZO (Zb (Za 1) eNil))) (Zg (YG 0 XS "weights" (eCB ZO (Zb (Za 2) eNil))) (YG 0 Xz "ways" (eCB ZO (Zb (ZC (ZH (Za 3)) (Zm 0) (λ_=>some true) kE 1 []) eNil)))) _=_
  rw [Zn (δ':=[some (.obj "Web" ["homes"] [HD hs]),some h0,some h1,some h2]) (by
   unfold YG;rw [show eCB ZO (Zb (Za 1) eNil) [some (.obj "Web" [] []),some h0,some h1,some h2]=some (HD hs)from(ZF (Zf (x:=h0) rfl nil_of)).trans e0];rfl)]
  rw [Zn (δ':=[some (.obj "Web" ["homes", "weights"] [HD hs,WD W]),some h0,some h1,some h2]) (by
   unfold YG;rw [show eCB ZO (Zb (Za 2) eNil) [some (.obj "Web" ["homes"] [HD hs]),some h0,some h1,some h2]=some (WD W)from(ZF (Zf (x:=h1) rfl nil_of)).trans e1];rfl)]
  unfold YG;rw [he];rfl
 show(match f_QP [some (.obj "Web" [] []),some h0,some h1,some h2]with
  |some (.nx δ)=>Za 0 δ
  |_=>none)=_
 rw [hq];rfl
theorem ZcI:∀l:List Int,frzL (l.map D.int)=true
 | []=>rfl
 |a::l=>by
  rw [List.map_cons,frzL,ZcI l];rfl
theorem ZcJ:∀l:List Nat,frzL (l.map nD)=true
 | []=>rfl
 |a::l=>by
  rw [List.map_cons,frzL,ZcJ l];rfl
theorem Zeb:∀l:List Way,frzL (l.map wyD)=true
 | []=>rfl
 |a::l=>by
  rw [List.map_cons,frzL,Zeb l];rfl
theorem ZiH:∀l:List (List Way),frzL (l.map rowD)=true
 | []=>rfl
 |a::l=>by
  rw [List.map_cons,frzL,ZiH l,Bool.and_true];show frz (.tup (a.map wyD))=true;rw [frz,Zeb]
theorem ZhU:frz (YM W hs Y)=true:=by
 show frzL [HD hs,WD W,YD Y]=true;rw [frzL,frzL,frzL,frzL,HD,WD,YD,frz,frz,frz,ZcI,ZcJ,ZiH];rfl
abbrev ZM(W:List Nat)(hs:List Int)(Y:List (List Way)):D := .tup [HD hs,WD W,YD Y]
def lC:DL.Env->Option D:=(eCB YJ (Zb (Za 0) eNil))
theorem ZeT(h:Ok n m W hs Y)(ns:List Int):Jp [.lst (ns.map D.int),ZM W hs Y]=some (YM W hs Y):=by
 have hm5:=h.m5;have hly:=h.ly;refine YF (δ:=[some (.lst (ns.map D.int)),some (ZM W hs Y),none,none,none,none]) rfl ?_
 have hc:xB (eOp eqD (eOp modW (ZB 2 Yx [] (Zb (Za 0) (Zb (eC (.int 1)) eNil))) (eC (.int 2))) (eC (.int 0))) [some (.lst (ns.map D.int)),some (ZM W hs Y),none,none,none,none]=some (decide ((ns.getD 1 0).fmod 2=0)):=by
  refine ZY ((Zi (x:=.int ((ns.getD 1 0).fmod 2)) (y:=.int 0) ((Zi (x:=.int (ns.getD 1 0)) (y:=.int 2) ((Yh (n:=2) (Zf rfl (Zf (x:=.int (1:Nat)) rfl nil_of)) rfl).trans (Qa ns 1)) rfl).trans (Zb0 (by decide))) rfl).trans (eqZ _ _))
 cases hz:decide ((ns.getD 1 0).fmod 2=0)with
 |true=>
  rw [hz]at hc;refine U8 ((X5 hc).trans (Ys ?_));refine(Jh (ds:=[HD hs,WD W,YD Y]) (Zf ((Zi (x:=ZM W hs Y) (y:=.int 0) rfl rfl).trans rfl) (Zf ((Zi (x:=ZM W hs Y) (y:=.int 1) rfl rfl).trans rfl) (Zf ((Zi (x:=ZM W hs Y) (y:=.int 2) rfl rfl).trans rfl) nil_of))) rfl).trans ?_;exact Za8 rowD (λr hr=>Jx r (Nat.le_trans (h.rl r hr) (by decide))) _ _ _ rfl rfl (λ_=>rfl) (by omega)
 |false=>
  rw [hz]at hc;refine(Zn (δ':=[some (.lst (ns.map D.int)),some (ZM W hs Y),none,none,none,none]) ((YK hc).trans rfl)).trans ?_;unfold Q9;have e0:eCB YJ (Zb (eOp ixD (Za 1) (eC (.int 0))) eNil) [some (.lst (ns.map D.int)),some (ZM W hs Y),none,none,none,none]=some (.lst (hs.map D.int)):=(ZF (Zf ((Zi (x:=ZM W hs Y) (y:=.int 0) rfl rfl).trans rfl) nil_of)).trans rfl;have e1:eCB YJ (Zb (eOp ixD (Za 1) (eC (.int 1))) eNil) [some (.lst (ns.map D.int)),some (ZM W hs Y),none,none,none,none]=some (.lst (W.map nD)):=(ZF (Zf ((Zi (x:=ZM W hs Y) (y:=.int 1) rfl rfl).trans rfl) nil_of)).trans rfl
  have e2:ZC (ZH (eOp ixD (Za 1) (eC (.int 2)))) (Zm 0) (λ_=>some true) lC 1 [] [some (.lst (ns.map D.int)),some (ZM W hs Y),none,none,none,none]=some (.lst (Y.map λr => .lst (r.map wyD))):=
   Yp (δ0:=[none]) (xs:=Y.map rowD) rfl rfl (YL (ε:=lC) rowD (λr => .lst (r.map wyD)) Y λr _=>⟨[some (rowD r)],rfl,(ZF (Zf (x:=rowD r) rfl nil_of)).trans rfl⟩) (by rw [List.length_map];omega)
  have e2':ZC (ZH (eOp ixD (Za 1) (eC (.int 2)))) (Zm 0) (λ_=>some true) (eCB YJ (Zb (Za 0) eNil)) 1 [] [some (.lst (ns.map D.int)),some (ZM W hs Y),none,none,none,none]=some (.lst (Y.map λr => .lst (r.map wyD))):=e2;rw [e0,e1,e2'];dsimp only
  have em:XJ "Web" 4 VU [] (Zb (eOp ixD (Za 2) (eC (.int 0))) (Zb (eOp ixD (Za 2) (eC (.int 1))) (Zb (eOp ixD (Za 2) (eC (.int 2))) eNil))) (([some (.lst (ns.map D.int)),some (ZM W hs Y),none,none,none,none]:DL.Env).set 2 (some (.lst [.lst (hs.map D.int),.lst (W.map nD),.lst (Y.map λr => .lst (r.map wyD))])))=some (YM W hs Y):=by
   refine(Jh (ds:=[.lst (hs.map D.int),.lst (W.map nD),.lst (Y.map λr => .lst (r.map wyD))]) (Zf ((Zi (x:=.lst [.lst (hs.map D.int),.lst (W.map nD),.lst (Y.map λr => .lst (r.map wyD))]) (y:=.int 0) rfl rfl).trans rfl) (Zf ((Zi (x:=.lst [.lst (hs.map D.int),.lst (W.map nD),.lst (Y.map λr => .lst (r.map wyD))]) (y:=.int 1) rfl rfl).trans rfl) (Zf ((Zi (x:=.lst [.lst (hs.map D.int),.lst (W.map nD),.lst (Y.map λr => .lst (r.map wyD))]) (y:=.int 2) rfl rfl).trans rfl) nil_of))) rfl).trans ?_
   exact Za8 (λr => .lst (r.map wyD)) (λr hr=>ZgA r (Nat.le_trans (h.rl r hr) (by decide))) _ _ _ rfl rfl (λ_=>rfl) (by omega)
  rw [em];dsimp only;exact if_pos ⟨ZhU,(show 2<6 by decide),(show 3<6 by decide),(show 4<6 by decide),(show 5<6 by decide)⟩
theorem ZhV(h:Ok n m W hs Y):Jr [ZM W hs Y]=some (.bl true):=by
 have hm5:=h.m5;have hlh:=h.lh;refine YF (δ:=[some (ZM W hs Y),none]) rfl ?_
 have hl:eCB lenD (Zb (eOp ixD (Za 0) (eC (.int 0))) eNil) [some (ZM W hs Y),none]=some (.int (m:Int)):=by
  refine(ZF (Zf ((Zi (x:=ZM W hs Y) (y:=.int 0) rfl rfl).trans rfl) nil_of)).trans ?_;show some (D.int ((hs.map D.int).length:Int))=_;rw [List.length_map,hlh]
 obtain⟨δ',h1,v,rfl⟩:=Qu (γ:=Zm 1) (φ:=(sIf (xB (eOp neD (eCB lenKD (Zb (ZB 2 Qy [] (Zb (eOp ixD (Za 0) (eC (.int 2))) (Zb (Za 1) eNil))) eNil)) (eCB lenD (Zb (eOp ixD (Za 0) (eC (.int 0))) eNil)))) (ZE (eC (.bl false))) sNext)) (λδ=>∃v,δ=[some (ZM W hs Y),v]) (Z9 0 1 m) [some (ZM W hs Y),none] ⟨_,rfl⟩ (by
  rintro x hx δ ⟨v,rfl⟩
  obtain⟨k,hk,rfl⟩:=ZbZ hx;rw [show(0:Int)+(k:Nat)*1=(k:Int) by omega];obtain⟨R,hR,hRl⟩:=ZhT h hk;refine⟨[some (ZM W hs Y),some (nD k)],rfl,[some (ZM W hs Y),some (nD k)],?_,_,rfl⟩
  have e1:eCB lenKD (Zb (ZB 2 Qy [] (Zb (eOp ixD (Za 0) (eC (.int 2))) (Zb (Za 1) eNil))) eNil) [some (ZM W hs Y),some (nD k)]=some (.int (m:Int)):=by
   refine(ZF (Zf ((Yh (n:=2) (ds:=[YD Y,nD k]) (Zf ((Zi (x:=ZM W hs Y) (y:=.int 2) rfl rfl).trans rfl) (Zf rfl nil_of)) rfl).trans hR) nil_of)).trans ?_;show some (D.int ((tkK R).length:Int))=_;rw [List.length_map,hRl]
  have e2:eCB lenD (Zb (eOp ixD (Za 0) (eC (.int 0))) eNil) [some (ZM W hs Y),some (nD k)]=some (.int (m:Int)):=by
   refine(ZF (Zf ((Zi (x:=ZM W hs Y) (y:=.int 0) rfl rfl).trans rfl) nil_of)).trans ?_;show some (D.int ((hs.map D.int).length:Int))=_;rw [List.length_map,hlh]
  exact(YK (ZY ((Zi e1 e2).trans ((neZ _ _).trans (by rw [decide_eq_true rfl];rfl))))).trans rfl)
 exact(Zn (Xe (Xy (j:=(m:Int)) (Zf hl nil_of) (by omega) (by omega)) h1)).trans (Ys rfl)
end
end K37
namespace K37
open DL L2
section
variable{n m:Nat}{W:List Nat}{hs:List Int}{Y:List (List Way)}
def ZQ(W:List Nat)(r:List Way):Nat:=(r.map λp=>W.getD p.2 0).sum
theorem Za9:∀l:List Nat,(l.map λa=>((a:Nat):Int)).sum=((l.sum:Nat):Int)
 | []=>rfl
 |a::l=>by
  rw [List.map_cons,List.sum_cons,List.sum_cons,Za9 l]
  push_cast
  rfl
theorem UF:∀l:List Nat,YE (l.map nD)=some (l.map λa=>((a:Nat):Int))
 | []=>rfl
 |a::l=>by
  rw [List.map_cons,YE,UF l];rfl
theorem Jy(l:List Nat):sumLD [.lst (l.map nD)]=some (.int (l.sum:Nat)):=by
 unfold sumLD;dsimp only;rw [UF];dsimp only;rw [Za9]
def wC:DL.Env->Option D:=(eOp ixD (Za 1) (eOp ixD (Za 0) (eC (.int 1))))
theorem Zec(h:Ok n m W hs Y){r:List Way}(hr:r∈Y):Ym (Zm 0) (λ_=>some true) wC [none,some (WD W)] (r.map wyD)=some ((r.map λp=>W.getD p.2 0).map nD):=by
 rw [List.map_map];exact YL (ε:=wC) wyD _ r λp hp=>⟨[some (wyD p),some (WD W)],rfl,(Zi (x:=WD W) (y:=nD p.2) rfl ((Zi (x:=wyD p) (y:=.int 1) rfl rfl).trans (V5 p))).trans (X8 h (h.tg r hr p hp))⟩
noncomputable def bB:DL.Env->Option Out:=(sIf (xB (eOp (Yu λi j=>decide (i<j)) (eCB sumLD (Zb (ZC (ZH (eOp ixD (Za 4) (Za 5))) (Zm 0) (λ_=>some true) wC 1 [3]) eNil)) (eOp mulX (Za 1) (eOp ixD (Za 3) (Za 5))))) (ZE (eC (.bl false))) sNext)
theorem ZfI:f_QH=Zg (Uq (Y4 3 (ZW 2 (ZW 3 (ZW 4 gsNil)))) (Za 0)) (Zg (Z5 (ZL (Zb (eCB lenD (Zb (Za 2) eNil)) eNil)) (Zm 5) bB) (ZE (eC (.bl true)))):=rfl
theorem ZfJ(h:Ok n m W hs Y):Jq [ZM W hs Y,nD n]=some (.bl true):=by
 have hm5:=h.m5;have hlh:=h.lh;have hn6:=h.n6;refine YF (δ:=[some (ZM W hs Y),some (nD n),none,none,none,none]) rfl ?_;rw [ZfI,Zn (δ':=[some (ZM W hs Y),some (nD n),some (HD hs),some (WD W),some (YD Y),none]) rfl]
 have hl:eCB lenD (Zb (Za 2) eNil) [some (ZM W hs Y),some (nD n),some (HD hs),some (WD W),some (YD Y),none]=some (.int (m:Int)):=by
  refine(ZF (Zf (x:=HD hs) rfl nil_of)).trans ?_;show some (D.int ((hs.map D.int).length:Int))=_;rw [List.length_map,hlh]
 obtain⟨δ',h1,v,rfl⟩:=Qu (γ:=Zm 5) (φ:=bB) (λδ=>∃v,δ=[some (ZM W hs Y),some (nD n),some (HD hs),some (WD W),some (YD Y),v]) (Z9 0 1 m) [some (ZM W hs Y),some (nD n),some (HD hs),some (WD W),some (YD Y),none] ⟨_,rfl⟩ (by
  rintro x hx δ ⟨v,rfl⟩
  obtain⟨k,hk,rfl⟩:=ZbZ hx;rw [show(0:Int)+(k:Nat)*1=(k:Int) by omega];have hr:=(h.row hk).2;refine⟨[some (ZM W hs Y),some (nD n),some (HD hs),some (WD W),some (YD Y),some (nD k)],rfl,[some (ZM W hs Y),some (nD n),some (HD hs),some (WD W),some (YD Y),some (nD k)],?_,_,rfl⟩
  have e1:eCB sumLD (Zb (ZC (ZH (eOp ixD (Za 4) (Za 5))) (Zm 0) (λ_=>some true) wC 1 [3]) eNil) [some (ZM W hs Y),some (nD n),some (HD hs),some (WD W),some (YD Y),some (nD k)]=some (.int (ZQ W (Y.getD k []):Nat)):=by
   refine(ZF (Zf (Yp (δ0:=[none,some (WD W)]) (xs:=(Y.getD k []).map wyD) ?_ rfl (Zec h hr) ?_) nil_of)).trans (Jy _)
   · unfold ZH
     rw [(Zi (x:=YD Y) (y:=nD k) rfl rfl).trans (Ut h hk)];rfl
   · rw [List.length_map,List.length_map]
     have:=h.rl _ hr;omega
  have hw:=h.w1 _ (h.wt hk).2
  have e2:eOp mulX (Za 1) (eOp ixD (Za 3) (Za 5)) [some (ZM W hs Y),some (nD n),some (HD hs),some (WD W),some (YD Y),some (nD k)]=some (.int ((n:Int)*(W.getD k 0:Nat))):=
   (Zi (x:=nD n) (y:=nD (W.getD k 0)) rfl ((Zi (x:=WD W) (y:=nD k) rfl rfl).trans (X8 h hk))).trans (Zaz (by omega) (by omega))
  have hb:=h.br k hk
  exact(YK (ZY ((Zi e1 e2).trans (show some (D.bl (decide (((ZQ W (Y.getD k []):Nat):Int)<(n:Int)*(W.getD k 0:Nat))))=some (.bl false) by
   rw [decide_eq_false];have:n*W.getD k 0<=ZQ W (Y.getD k []):=hb;have h2:((n*W.getD k 0:Nat):Int)<=((ZQ W (Y.getD k []):Nat):Int):=by exact_mod_cast this
   push_cast at h2
   omega)))).trans rfl)
 exact(Zn (Xe (Xy (j:=(m:Int)) (Zf hl nil_of) (by omega) (by omega)) h1)).trans (Ys rfl)
end
end K37
namespace K37
open DL L2
theorem ZfK(a n:Nat):(a:Int).fmod (n:Int)=((a % n:Nat):Int):=by
 rw [Int.fmod_eq_emod_of_nonneg _ (Int.natCast_nonneg n)];exact(Int.natCast_emod a n).symm
theorem UG{a n:Nat}(h:1<=n):modW (nD a) (nD n)=some (nD (a % n)):=by
 rw [Zb0 (by omega),ZfK]
def UH(n:Nat)(ms:List Nat):List Nat:=(List.range (ms.length+1)).map λi=>(ms.take i).sum % n
theorem Jz(n:Nat)(ms:List Nat):(UH n ms).length=ms.length+1:=by simp [UH]
theorem ZcK{n:Nat}{ms:List Nat}{i:Nat}(h:i<=ms.length):(UH n ms)[i]? = some ((ms.take i).sum % n):=by
 unfold UH;rw [List.getElem?_map,List.getElem?_range (by omega)];rfl
end K37
namespace K37
open DL L2
section
variable{n m:Nat}{W:List Nat}{hs:List Int}{Y:List (List Way)}
theorem Zjr(h:Ok n m W hs Y):∃M,maxQD [WD W]=some (nD M)/\M∈W/\∀w∈W,w<=M:=by
 have hl:0<(W.map λa=>((a:Nat):Int)).length:=by rw [List.length_map,h.lw];exact h.m1
 obtain⟨h1,h2⟩:=Zbs hl;obtain⟨M,hM,e⟩:=List.mem_map.mp h1;refine⟨M,?_,hM,λw hw => ?_⟩
 · unfold maxQD WD
   dsimp only;rw [UF];dsimp only;rw [if_pos hl,<-e]
 · have:=h2 _ (List.mem_map.mpr ⟨w,hw,rfl⟩)
   rw [<-e]at this;omega
theorem Zjs(h:Ok n m W hs Y):∃M,minQD [WD W]=some (nD M)/\M∈W/\∀w∈W,M<=w:=by
 have hl:0<(W.map λa=>((a:Nat):Int)).length:=by rw [List.length_map,h.lw];exact h.m1
 obtain⟨h1,h2⟩:=Zax hl;obtain⟨M,hM,e⟩:=List.mem_map.mp h1;refine⟨M,?_,hM,λw hw => ?_⟩
 · unfold minQD WD
   dsimp only;rw [UF];dsimp only;rw [if_pos hl,<-e]
 · have:=h2 _ (List.mem_map.mpr ⟨w,hw,rfl⟩)
   rw [<-e]at this;omega
theorem UI(a b:Nat):eqD (nD a) (nD b)=some (.bl (decide (a=b))):=by
 rw [eqZ]
 by_cases h:a=b
 · rw [h];simp
 · rw [decide_eq_false h,decide_eq_false (by omega)]
theorem QB(a b:Nat):neD (nD a) (nD b)=some (.bl (!decide (a=b))):=by
 unfold neD;rw [UI]
theorem Zb2(h:Ok n m W hs Y):Jj [YM W hs Y]=some (nD m):=by
 refine YF (δ:=[some (YM W hs Y)]) rfl (Ys ((ZF (Zf (x:=HD hs) rfl nil_of)).trans ?_));show some (D.int ((hs.map D.int).length:Int))=_;rw [List.length_map,h.lh]
end
end K37
namespace K37
open DL L2
theorem ZhW{α:Type}(r:List α)(j:Nat):cutL r none (some (j:Int))=r.take j:=by
 unfold cutL Yk;have e:¬((j:Int)<0):=by omega
 have e2:((j:Int)).toNat=j:=by omega
 simp only [e,if_false,e2,List.drop_zero,Nat.sub_zero]
 by_cases h:j<=r.length
 · rw [Nat.min_eq_left h]
 · rw [Nat.min_eq_right (by omega),List.take_of_length_le (Nat.le_refl _),List.take_of_length_le (by omega)]
theorem Zjt{α:Type}(r:List α){a b:Nat}(h1:a<=b)(h2:b<=r.length):cutL r (some (a:Int)) (some (b:Int))=(r.drop a).take (b-a):=by
 unfold cutL Yk;have e:¬((a:Int)<0):=by omega
 have e2:((a:Int)).toNat=a:=by omega
 have f:¬((b:Int)<0):=by omega
 have f2:((b:Int)).toNat=b:=by omega
 simp only [e,f,if_false,e2,f2];rw [Nat.min_eq_left h2,Nat.min_eq_left (by omega)]
theorem X9(m:Nat):Z9 0 1 m=(List.range m).map nD:=by
 unfold Z9;refine List.map_congr_left λk _ => ?_
 show D.int ((0:Int)+(k:Nat)*1)=D.int (k:Int);rw [show(0:Int)+(k:Nat)*1=(k:Int) by omega]
theorem ZiI{a:DL.Env->Option D}{lo hi:DL.Env->Option (Option Int)}{δ:DL.Env}{xs:List D}{l u:Option Int}(h1:a δ=some (.lst xs))(h2:lo δ=some l)(h3:hi δ=some u):eSl a lo hi δ=some (.lst (cutL xs l u)):=by
 unfold eSl;rw [h1,h2,h3];rfl
theorem Zg2{e:DL.Env->Option D}{δ:DL.Env}{i:Int}(h:e δ=some (.int i)):xP e δ=some (some i):=by
 unfold xP;rw [h]
theorem ZaB{a:DL.Env->Option D}{δ:DL.Env}{W:List Nat}{hs:List Int}{Y:List (List Way)}(h:a δ=some (YM W hs Y)):XM "many" Vk a eNil δ=Jj [YM W hs Y]:=by
 unfold XM;rw [h];rfl
section
variable{n m:Nat}{W:List Nat}{hs:List Int}{Y:List (List Way)}
def wOf(W:List Nat)(r:List Way)(k:Nat):Nat:=W.getD (r.getD k ([],0)).2 0
theorem ZhX(h:Ok n m W hs Y){k:Nat}(hk:k<m){M:Nat}(hM:W.getD k 0=M)(hx:∀w∈W,w<=M)(h0:1<=M):n<=(Y.getD k []).length:=by
 have hb:=h.br k hk;rw [hM]at hb
 have:∀r:List Way,(∀p∈r,p.2<m)->(r.map λp=>W.getD p.2 0).sum<=r.length*M:=by
  intro r
  induction r with
  |nil=>intro _;exact Nat.zero_le _
  |cons p r ih=>
   intro hr;rw [List.map_cons,List.sum_cons,List.length_cons,Nat.succ_mul];have h1:=ih λq hq=>hr q (List.mem_cons_of_mem _ hq)
   have h2:=hx _ (h.wt (hr p List.mem_cons_self)).2;omega
 have h2:=this _ (h.tg _ (h.row hk).2);exact Nat.le_of_mul_le_mul_right (Nat.le_trans hb h2) h0
end
end K37
namespace K37
open DL L2
theorem JA(a b:Nat):Yu (λi j=>decide (i<j)) (nD a) (nD b)=some (.bl (decide (a<b))):=by
 show some (D.bl (decide ((a:Int)<(b:Int))))=_
 by_cases h:a<b
 · rw [decide_eq_true h,decide_eq_true (by omega)]
 · rw [decide_eq_false h,decide_eq_false (by omega)]
section
variable{n m:Nat}{W:List Nat}{hs:List Int}{Y:List (List Way)}
theorem Zed(f:Nat->Nat):∀(l S:List Nat),l.Nodup->(∀x∈l,x∈S)->(l.map f).sum<=(S.map f).sum
 | [],_,_,_=>Nat.zero_le _
 |x::l,S,hn,hs=>by
  have hx:=hs x List.mem_cons_self;rw [List.nodup_cons]at hn;have ih:=Zed f l (S.erase x) hn.2 λy hy=>(List.mem_erase_of_ne (λ(z:y=x)=>hn.1 (by rw [<-z];exact hy))).mpr (hs y (List.mem_cons_of_mem _ hy))
  have hp:=((List.perm_cons_erase hx).map f).sum_nat;rw [List.map_cons,List.sum_cons]at hp ⊢;omega
theorem ZgC{f:Nat->Nat}{M j:Nat}:∀ks:List Nat,(∀k∈ks,f k<=M)->j∈ks->f j<M->(ks.map f).sum<ks.length*M
 |k::ks,h,hj,hl=>by
  rw [List.map_cons,List.sum_cons,List.length_cons,Nat.succ_mul];have h0:=h k List.mem_cons_self;rcases List.mem_cons.mp hj with rfl|z
  · have : ∀ l : List Nat, (∀ x ∈ l, f x <= M) -> (l.map f).sum <= l.length * M := by
     intro l
     induction l with
     |nil=>intro _;exact Nat.zero_le _
     |cons x l ih=>
      intro hx;rw [List.map_cons,List.sum_cons,List.length_cons,Nat.succ_mul];have h1:=ih λy hy=>hx y (List.mem_cons_of_mem _ hy)
      have h2:=hx x List.mem_cons_self;omega
    have:=this ks λx hx=>h x (List.mem_cons_of_mem _ hx)
    omega
  · have:=ZgC ks (λx hx=>h x (List.mem_cons_of_mem _ hx)) z hl
    omega
theorem ZhY(W:List Nat)(r:List Way):ZQ W r=((List.range r.length).map (wOf W r)).sum:=by
 unfold ZQ
 congr 1
 apply List.ext_getElem
 · simp
 · intro i h1 h2
   rw [List.getElem_map,List.getElem_map,List.getElem_range];unfold wOf;rw [List.getD_eq_getElem?_getD (l:=r),List.getElem?_eq_getElem (by simpa using h1)];rfl
structure Good(n M:Nat)(W:List Nat)(r:List Way)(picks:List Nat):Prop where
 inc:picks.Pairwise (· < ·)
 lt:∀k∈picks,k<r.length
 len:picks.length<r.length
 even:(picks.map (wOf W r)).sum % n=0
 pos:1<=(picks.map (wOf W r)).sum
 less:(picks.map (wOf W r)).sum<n*M
end
end K37
namespace K37
open DL L2
theorem Zb3(k:Nat):ixD (.str [97,98,99,100]) (nD (k % 4))=some (.str [97+k % 4]):=by
 have h:k % 4<4:=Nat.mod_lt _ (by decide);rcases(show k % 4=0\/k % 4=1\/k % 4=2\/k % 4=3 by omega)with e|e|e|e
 · rw [e];exact ix_str (a:=0) rfl (by decide)
 · rw [e];exact ix_str (a:=1) rfl (by decide)
 · rw [e];exact ix_str (a:=2) rfl (by decide)
 · rw [e];exact ix_str (a:=3) rfl (by decide)
def blk(k:Nat):List Nat:=[97+k / 16 % 4,97+k / 4 % 4,97+k % 4]
theorem Zju(k:Nat):(blk k).length=3/\Xf (blk k):=⟨rfl,by
 intro c hc;simp only [blk,List.mem_cons,List.mem_nil_iff,or_false]at hc;omega⟩
theorem ZhZ{a b:Nat}(ha:a<64)(hb:b<64)(h:blk a=blk b):a=b:=by
 unfold blk at h;injection h with h1 h
 injection h with h2 h
 injection h with h3 h
 omega
def bs(k:Nat):Nat:=k+1-k % 2*2
def Num(r:List Nat)(k x:Nat):Prop:=x=19+k\/(x=k / 2/\bs k<r.length/\r.getD (bs k) 0≠r.getD k 0)
theorem Zh0{r:List Nat}{i j x y:Nat}(hl:r.length<=30)(hi:i<j)(hj:j<r.length)(h1:Num r i x)(h2:Num r j y):(blk x,r.getD i 0)≠(blk y,r.getD j 0):=λe=>by
 injection e with e1 e2
 have hx:x<64:=by rcases h1 with z|⟨z,_⟩<;>omega
 have hy:y<64:=by rcases h2 with z|⟨z,_⟩<;>omega
 have e3:=ZhZ hx hy e1;rcases h1 with z|⟨z,z1,z2⟩
 · rcases h2 with w|⟨w,_⟩<;>omega
 · rcases h2 with w|⟨w,_⟩
   · omega
   · have:bs i=j:=by unfold bs;omega
     rw [this]at z2;exact z2 e2.symm
theorem QC{a b:Nat}(h:1<=b)(hb:b<=1000):fdivW (nD a) (nD b)=some (nD (a / b)):=by
 rw [ZcH (by omega) (ZiF (by rw [Int.natAbs_natCast];exact Nat.le_trans hb (by decide +kernel))),Int.fdiv_eq_ediv_of_nonneg _ (Int.natCast_nonneg b),<-Int.natCast_ediv]
theorem ZfL(k:Nat):Jm [nD k]=some (.str (blk k)):=by
 have e1:=Zb3 (k / 16);have e2:=Zb3 (k / 4);have e3:=Zb3 k;refine YF (δ:=[some (nD k)]) rfl (Ys ?_);have d1:eOp modW (eOp fdivW (Za 0) (eC (.int 16))) (eC (.int 4)) [some (nD k)]=some (nD (k / 16 % 4)):=(Zi (x:=nD (k / 16)) (y:=nD 4) ((Zi (x:=nD k) (y:=nD 16) rfl rfl).trans (QC (by decide) (by decide))) rfl).trans (UG (by decide));have d2:eOp modW (eOp fdivW (Za 0) (eC (.int 4))) (eC (.int 4)) [some (nD k)]=some (nD (k / 4 % 4)):=(Zi (x:=nD (k / 4)) (y:=nD 4) ((Zi (x:=nD k) (y:=nD 4) rfl rfl).trans (QC (by decide) (by decide))) rfl).trans (UG (by decide))
 have d3:eOp modW (Za 0) (eC (.int 4)) [some (nD k)]=some (nD (k % 4)):=(Zi (x:=nD k) (y:=nD 4) rfl rfl).trans (UG (by decide));exact(Zi ((Zi ((Zi rfl d1).trans e1) ((Zi rfl d2).trans e2)).trans (add_str (by show 1+1<=100000;decide))) ((Zi rfl d3).trans e3)).trans (add_str (by show 2+1<=100000;decide))
noncomputable def nB3:DL.Env->Option Out:=(sIf (YW (xB (eOp eqD (Za 1) (eC (.int 1)))) (YW (xB (eOp (Yu λi j=>decide (i<j)) (Za 5) (eCB lenD (Zb (Za 0) eNil)))) (xB (eOp neD (eOp ixD (Za 0) (Za 5)) (eOp ixD (Za 0) (Za 3)))))) (Zl 4 (eOp fdivW (Za 3) (eC (.int 2)))) sNext)
noncomputable def nB:DL.Env->Option Out:=(Zg (Zl 4 (eOp addX (eC (.int 19)) (Za 3))) (Zg (Zl 5 (eOp subD (eOp addX (Za 3) (eC (.int 1))) (eOp mulX (eOp modW (Za 3) (eC (.int 2))) (eC (.int 2))))) (Zg nB3 (Yr 2 (Yl (Zb (ZB 1 Jm [] (Zb (Za 4) eNil)) (Zb (eOp ixD (Za 0) (Za 3)) eNil)))))))
theorem ZfM:f_QG=Zg (Zl 2 (ZS eNil)) (Zg (Z5 (ZL (Zb (eCB lenD (Zb (Za 0) eNil)) eNil)) (Zm 3) nB) (ZE (eCB ZO (Zb (Za 2) eNil)))):=rfl
abbrev NE(r:List Nat)(tw:Int)(ws:List Way)(v3 v4 v5:Option D):DL.Env:=[some (AD r),some (.int tw),some (.lst (ws.map wyD)),v3,v4,v5]
theorem JB{r:List Nat}{k:Nat}(hk:k<r.length):ixD (AD r) (nD k)=some (nD (r.getD k 0)):=by
 have hg:r[k]? = some (r.getD k 0):=by
  rw [List.getD_eq_getElem?_getD,List.getElem?_eq_getElem hk];rfl
 exact U9 (by rw [List.getElem?_map,hg];rfl)
theorem ZkS(r:List Nat)(tw:Int)(ws:List Way)(k:Nat)(hk:k<r.length)(hl:r.length<=100)(hw:ws.length<=1000)(v4 v5:Option D):∃(x:Nat) (w4 w5:Option D),nB (NE r tw ws (some (nD k)) v4 v5)=some (.nx (NE r tw (ws++[(blk x,r.getD k 0)]) (some (nD k)) w4 w5))/\Num r k x:=by
 have hm:k % 2<=1:=by omega
 have hbs:bs k+k % 2*2=k+1:=by show k+1-k % 2*2+k % 2*2=k+1;omega
 have t1:Zl 4 (eOp addX (eC (.int 19)) (Za 3)) (NE r tw ws (some (nD k)) v4 v5)=some (.nx (NE r tw ws (some (nD k)) (some (nD (19+k))) v5)):=by
  refine(ZK ((Zi (x:=nD 19) (y:=nD k) rfl rfl).trans (add_int _ _))).trans ?_;show some (Out.nx [_,_,_,_,some (D.int (((19:Nat):Int)+(k:Int))),_])=_;rw [show(((19:Nat):Int)+(k:Int))=((19+k:Nat):Int) by push_cast;rfl]
 have t2:Zl 5 (eOp subD (eOp addX (Za 3) (eC (.int 1))) (eOp mulX (eOp modW (Za 3) (eC (.int 2))) (eC (.int 2)))) (NE r tw ws (some (nD k)) (some (nD (19+k))) v5)=some (.nx (NE r tw ws (some (nD k)) (some (nD (19+k))) (some (nD (bs k))))):=by
  refine(ZK ((Zi ((Zi (x:=nD k) (y:=.int 1) rfl rfl).trans (add_int _ _)) ((Zi ((Zi (x:=nD k) (y:=nD 2) rfl rfl).trans (UG (by decide))) rfl).trans (Zaz (by decide) (by decide)))).trans rfl)).trans ?_;show some (Out.nx [_,_,_,_,_,some (D.int ((k:Int)+1-((k % 2:Nat):Int)*2))])=_;rw [show((k:Int)+1-((k % 2:Nat):Int)*2)=((bs k:Nat):Int) by omega]
 have t3:∃x,Num r k x/\nB3 (NE r tw ws (some (nD k)) (some (nD (19+k))) (some (nD (bs k))))=some (.nx (NE r tw ws (some (nD k)) (some (nD x)) (some (nD (bs k))))):=by
  have c1:xB (eOp eqD (Za 1) (eC (.int 1))) (NE r tw ws (some (nD k)) (some (nD (19+k))) (some (nD (bs k))))=some (decide (tw=1)):=ZY ((Zi (x:=.int tw) (y:=.int 1) rfl rfl).trans (eqZ _ _))
  by_cases h1:tw=1
  · rw [decide_eq_true h1]at c1
    have c2:xB (eOp (Yu λi j=>decide (i<j)) (Za 5) (eCB lenD (Zb (Za 0) eNil))) (NE r tw ws (some (nD k)) (some (nD (19+k))) (some (nD (bs k))))=some (decide (bs k<r.length)):=ZY ((Zi (x:=nD (bs k)) (y:=nD r.length) rfl ((ZF (Zf (x:=AD r) rfl nil_of)).trans (by show some (D.int ((r.map nD).length:Int))=_;rw [List.length_map]))).trans (JA _ _))
    by_cases h2:bs k<r.length
    · rw [decide_eq_true h2]at c2
      have c3:xB (eOp neD (eOp ixD (Za 0) (Za 5)) (eOp ixD (Za 0) (Za 3))) (NE r tw ws (some (nD k)) (some (nD (19+k))) (some (nD (bs k))))=some (!decide (r.getD (bs k) 0=r.getD k 0)):=ZY ((Zi ((Zi (x:=AD r) (y:=nD (bs k)) rfl rfl).trans (JB h2)) ((Zi (x:=AD r) (y:=nD k) rfl rfl).trans (JB hk))).trans (QB _ _));cases hz : !decide (r.getD (bs k) 0=r.getD k 0)with
      |true=>
       rw [hz]at c3;exact⟨k / 2,.inr ⟨rfl,h2,by simpa using hz⟩,(X5 (UA c1 (UA c2 c3))).trans (ZK ((Zi (x:=nD k) (y:=nD 2) rfl rfl).trans (QC (by decide) (by decide))))⟩
      |false=>
       rw [hz]at c3;exact⟨19+k,.inl rfl,(YK (UA c1 (UA c2 c3))).trans rfl⟩
    · rw [decide_eq_false h2]at c2
      exact⟨19+k,.inl rfl,(YK (UA c1 (Jc c2))).trans rfl⟩
  · rw [decide_eq_false h1]at c1
    exact⟨19+k,.inl rfl,(YK (Jc c1)).trans rfl⟩
 obtain⟨x,hx,t3⟩:=t3;have eb:=ZfL x;refine⟨x,some (nD x),some (nD (bs k)),?_,hx⟩;refine(Zn t1).trans ((Zn t2).trans ((Zn t3).trans ((Us (xs:=ws.map wyD) (d:=wyD (blk x,r.getD k 0)) rfl (VR (Zf ((Yh (n:=1) (Zf rfl nil_of) rfl).trans eb) (Zf ((Zi (x:=AD r) (y:=nD k) rfl rfl).trans (JB hk)) nil_of)) (by show 2<=1000;decide)) (by rw [List.length_map];omega)).trans ?_)));rw [show ws.map wyD++[wyD (blk x,r.getD k 0)]=(ws++[(blk x,r.getD k 0)]).map wyD by rw [List.map_append];rfl]
 rfl
theorem QD{len:Nat}{dn r:List Nat}{x:Nat}(e:dn++x::r=List.range len):x=dn.length/\dn.length<len:=by
 have h:(dn++x::r)[dn.length]? = (List.range len)[dn.length]? := by rw [e]
 rw [List.getElem?_append_right (Nat.le_refl _),Nat.sub_self]at h;have hl:=congrArg List.length e;rw [List.length_append,List.length_cons,List.length_range]at hl;rw [List.getElem?_range (by omega)]at h;exact⟨Option.some.inj h,by omega⟩
theorem ZbA{r:List Nat}{k:Nat}(hk:k<r.length):r.take (k+1)=r.take k++[r.getD k 0]:=by
 rw [List.take_add_one,List.getElem?_eq_getElem hk,List.getD_eq_getElem?_getD,List.getElem?_eq_getElem hk];rfl
theorem ZfN(r:List Nat)(tw:Int)(hl:r.length<=30):∃ws:List Way,Jo [AD r,.int tw]=some (rowD ws)/\ws.map Prod.snd=r/\(∀p∈ws,p.1.length=3/\Xf p.1)/\ws.Nodup:=by
 obtain⟨δ',h1,ws,w3,w4,w5,rfl,g2,g3⟩:=UD (γ:=Zm 3) (φ:=nB) nD (λdn δ=>∃(ws:List Way) (w3 w4 w5:Option D),δ=NE r tw ws w3 w4 w5/\ws.map Prod.snd=r.take dn.length/\∀i p,ws[i]? = some p->∃x,p=(blk x,r.getD i 0)/\Num r i x) (List.range r.length) (by
  rintro dn x rest δ e ⟨ws,w3,w4,w5,rfl,g2,g3⟩
  obtain⟨rfl,hk⟩:=QD e
  have hwl:ws.length=dn.length:=by
   have:=congrArg List.length g2;rw [List.length_map,List.length_take]at this;omega
  obtain⟨b,x4,x5,g4,g5⟩:=ZkS r tw ws dn.length hk (by omega) (by omega) w4 w5;refine⟨NE r tw ws (some (nD dn.length)) w4 w5,rfl,_,g4,_,_,_,_,rfl,?_,?_⟩
  · rw [List.map_append,g2,List.length_append,List.length_singleton,ZbA hk]
    rfl
  · intro i p hp
    by_cases hi:i<ws.length
    · rw [List.getElem?_append_left hi]at hp
      exact g3 i p hp
    · rw [List.getElem?_append_right (by omega)]at hp
      obtain⟨hz,e2⟩:=List.getElem?_eq_some_iff.mp hp;rw [List.length_singleton]at hz;have:i=dn.length:=by omega
      subst this;refine⟨b,?_,g5⟩;rw [<-e2,List.getElem_singleton]) (List.range r.length) [] (NE r tw [] none none none) rfl ⟨[],none,none,none,rfl,rfl,λi p hp=>by cases hp⟩
 rw [List.length_range,List.take_of_length_le (Nat.le_refl _)]at g2;refine⟨ws,YF (δ:=[some (AD r),some (.int tw),none,none,none,none]) rfl ?_,g2,λp hp => ?_,?_⟩
 · rw [ZfM,Zn (δ':=NE r tw [] none none none) (ZK (Xq (ds:=[]) rfl (by decide)))]
   refine(Zn (Xe ((Xy (j:=(r.length:Int)) (Zf ((ZF (Zf (x:=AD r) rfl nil_of)).trans (by show some (D.int ((r.map nD).length:Int))=_;rw [List.length_map])) nil_of) (by omega) (by omega)).trans (by rw [Int.toNat_natCast,X9])) h1)).trans (Ys ((ZF (Zf (x:=.lst (ws.map wyD)) rfl nil_of)).trans rfl))
 · obtain⟨i,hi⟩:=List.mem_iff_getElem?.mp hp
   obtain⟨x,rfl,_⟩:=g3 i p hi;exact Zju x
 · have hwl:ws.length=r.length:=by rw [<-g2,List.length_map]
   refine List.pairwise_iff_getElem.mpr λi j hi hj hij => ?_
   obtain⟨x,ex,nx⟩:=g3 i _ (List.getElem?_eq_getElem hi);obtain⟨y,ey,ny⟩:=g3 j _ (List.getElem?_eq_getElem hj);rw [ex,ey];exact Zh0 hl hij (by omega) nx ny
end K37
namespace K37
open DL L2
theorem scal_of{ε:DL.Env->Option D}{δ:DL.Env}{d:D}(h:ε δ=some d)(hs:ZA d=true):Ub ε δ=some d:=by
 unfold Ub;rw [h];exact if_pos hs
theorem Zee{i:Nat}{κ ε:DL.Env->Option D}{δ:DL.Env}{xs r:List D}{j:Nat}{d:D}(hv:Za i δ=some (.lst xs))(hk:κ δ=some (.int (j:Int)))(he:ε δ=some d)(hs:ZA d=true)(hr:xs[j]? = some (.lst r))(hl:r.length<=1000):Vi i κ ε δ=some (.nx (δ.set i (some (.lst (xs.set j (.lst (r++[d]))))))):=by
 have hj:j<xs.length:=(List.getElem?_eq_some_iff.mp hr).1;unfold Vi;rw [scal_of he hs,hv,hk];dsimp only;rw [Zea hj];dsimp only;rw [hr];exact if_pos (by rw [PySem.sizeLine_eq];omega)
theorem Zh1{ε:DL.Env->Option D}{δ:DL.Env}{xs:List D}{rs:List (List D)}(h:ε δ=some (.lst xs))(hr:Um xs=some rs):U3 ε δ=some (.lst xs):=by
 unfold U3;rw [h];dsimp only;rw [hr]
theorem Zjv{ψ:DL.Env->Option Out}{δ:DL.Env}{d:D}(h:ψ δ=some (.rt d)):U4 ψ δ=some (.rt d):=by
 unfold U4;rw [h]
theorem ZbB:∀acc:List (List Nat),Um (acc.map AD)=some (acc.map λr=>r.map nD)
 | []=>rfl
 |r::acc=>by
  show(if(r.map nD).all ZA=true then(match Um (acc.map AD)with|some rs=>some (r.map nD::rs)|none=>none)else none)=_;rw [if_pos (ZjR r),ZbB acc];rfl
structure Rw(m:Nat)(R:List (List Nat)):Prop where
 len:R.length=m
 lt:∀r∈R,∀t∈r,t<m
 ln:∀r∈R,r.length<=30
 st:∀k<m,(k+1) % m∈R.getD k []
def push(R:List (List Nat))(k t:Nat):List (List Nat):=R.set k (R.getD k []++[t])
theorem ZaC{R:List (List Nat)}{k t i:Nat}(hk:k<R.length):(push R k t).getD i []=if i=k then R.getD k []++[t]else R.getD i []:=by
 unfold push;rw [List.getD_eq_getElem?_getD]
 by_cases h:i=k
 · subst h
   rw [List.getElem?_set_self hk,if_pos rfl];rfl
 · rw [List.getElem?_set_ne (λz=>h z.symm),if_neg h,<-List.getD_eq_getElem?_getD]
theorem UJ{R:List (List Nat)}{k:Nat}(hk:k<R.length):R[k]? = some (R.getD k [])/\R.getD k []∈R:=by
 rw [List.getD_eq_getElem?_getD,List.getElem?_eq_getElem hk];exact⟨rfl,List.getElem_mem hk⟩
theorem Rw.push{m k t:Nat}{R:List (List Nat)}(h:Rw m R)(hk:k<m)(ht:t<m)(hl:(R.getD k []).length<30):Rw m (push R k t):=by
 have hkl:k<R.length:=by rw [h.len];exact hk
 have hm:=(UJ hkl).2;refine⟨by unfold K37.push;rw [List.length_set];exact h.len,λr hr x hx => ?_,λr hr => ?_,λi hi => ?_⟩
 · rcases List.mem_or_eq_of_mem_set hr with z|z
   · exact h.lt r z x hx
   · subst z
     rcases List.mem_append.mp hx with z|z
     · exact h.lt _ hm x z
     · rw [List.mem_singleton.mp z];exact ht
 · rcases List.mem_or_eq_of_mem_set hr with z|z
   · exact h.ln r z
   · subst z
     rw [List.length_append,List.length_singleton];omega
 · rw [ZaC hkl]
   by_cases e:i=k
   · rw [if_pos e,<-e]
     exact List.mem_append_left _ (h.st i hi)
   · rw [if_neg e];exact h.st i hi
theorem ZgD{R:List (List Nat)}{k t:Nat}:(R.map AD).set k (.lst ((R.getD k []).map nD++[nD t]))=(push R k t).map AD:=by
 unfold push;rw [List.map_set]
 congr 1
 show _=D.lst ((R.getD k []++[t]).map nD);rw [List.map_append];rfl
theorem Uv(i:Int){m:Nat}(h:1<=m):∃a:Nat,modW (.int i) (nD m)=some (nD a)/\a<m:=by
 obtain⟨h1,h2⟩:=ZhL (a:=i) (b:=(m:Int)) (by omega);refine⟨(i.fmod m).toNat,?_,by omega⟩;rw [Zb0 (by omega)];show some (D.int (i.fmod m))=some (D.int (((i.fmod m).toNat:Nat):Int));rw [Int.toNat_of_nonneg h1]
theorem JC(i:Int){b:Nat}(h:1<=b)(hb:b<=1000):∃j,fdivW (.int i) (nD b)=some (.int j):=⟨_,ZcH (by omega) (ZiF (by rw [Int.natAbs_natCast];exact Nat.le_trans hb (by decide +kernel)))⟩
abbrev WE(ns:List Int)(n m:Nat)(v4 v5 v6 v7 v8 v9 v10:Option D):DL.Env:=[some (.lst (ns.map D.int)),some (nD 2),some (nD n),some (nD m),v4,v5,v6,v7,v8,v9,v10]
noncomputable def w2e:DL.Env->Option D:=(eOp addX (eC (.int 1)) (eOp modW (ZB 2 Yx [] (Zb (Za 1) (Zb (eOp addX (eOp addX (Za 2) (eC (.int 1))) (Za 0)) eNil))) (eC (.int 5))))
noncomputable def w2:DL.Env->Option Out:=(Zl 4 (ZC (ZL (Zb (Za 3) eNil)) (Zm 0) (λ_=>some true) w2e 1 [0,1]))
noncomputable def w3e:DL.Env->Option D:=(eOp modW (eOp fdivW (ZB 2 Yx [] (Zb (Za 1) (Zb (eOp addX (eOp addX (Za 2) (eC (.int 1))) (Za 0)) eNil))) (eC (.int 5))) (eC (.int 4)))
noncomputable def w3:DL.Env->Option Out:=(Zl 5 (ZC (ZL (Zb (Za 3) eNil)) (Zm 0) (λ_=>some true) w3e 1 [0,1]))
def w4e:DL.Env->Option D:=(ZS (Zb (eOp modW (eOp addX (Za 0) (eC (.int 1))) (Za 1)) eNil))
def w4:DL.Env->Option Out:=(U2 6 (U3 (ZC (ZL (Zb (Za 3) eNil)) (Zm 0) (λ_=>some true) w4e 1 [3])))
def w5a:DL.Env->Option Out:=(Zl 8 (eOp modW (eOp fdivW (eOp ixD (Za 0) (Za 7)) (eC (.int 7))) (Za 3)))
def w5b:DL.Env->Option Out:=(Zg (Xo 6 w5a) (sIf (xB (eOp (Yu λi j=>decide (i<j)) (eCB lenD (Zb (eOp ixD (Za 6) (Za 8)) eNil)) (eC (.int 8)))) (Vi 6 (Za 8) (eOp modW (eOp ixD (Za 0) (Za 7)) (Za 3))) sNext))
def w5:DL.Env->Option Out:=(Z5 (ZL (Zb (eOp addX (Za 1) (eC (.int 6))) (Zb (eCB lenD (Zb (Za 0) eNil)) eNil))) (Zm 7) w5b)
noncomputable def w6a:DL.Env->Option Out:=(Zl 9 (eOp modW (eOp fdivW (ZB 2 Yx [] (Zb (Za 0) (Zb (eOp addX (eOp addX (Za 1) (eC (.int 1))) (Za 8)) eNil))) (eC (.int 20))) (Za 3)))
noncomputable def w6t:DL.Env->Option Bool:=(Vg (xB (ZB 4 Jn [] (Zb (Za 4) (Zb (Za 6) (Zb (Za 8) (Zb (Za 2) eNil)))))))
def w6c:DL.Env->Option Out:=(Zl 9 (eOp modW (eOp addX (Za 9) (eC (.int 1))) (Za 3)))
def w6w:DL.Env->Option Out:=(Zg (Vi 6 (Za 8) (Za 9)) (Xo 6 w6c))
noncomputable def w6b:DL.Env->Option Out:=(Zg (Xo 6 w6a) (X3 w6t w6w))
noncomputable def w6:DL.Env->Option Out:=(Z5 (ZL (Zb (Za 3) eNil)) (Zm 8) w6b)
noncomputable def w7b:DL.Env->Option Out:=(Yr 10 (ZB 2 Jo [] (Zb (eOp ixD (Za 6) (Za 8)) (Zb (eOp modW (eOp fdivW (ZB 2 Yx [] (Zb (Za 0) (Zb (eC (.int 1)) eNil))) (eC (.int 2))) (eC (.int 2))) eNil))))
noncomputable def w7:DL.Env->Option Out:=(Zg (Zl 10 (ZS eNil)) (Zg (Z5 (ZL (Zb (Za 3) eNil)) (Zm 8) w7b) (ZE (Yl (Zb (eCB ZO (Zb (Za 5) eNil)) (Zb (eCB ZO (Zb (Za 4) eNil)) (Zb (eCB ZO (Zb (Za 10) eNil)) eNil)))))))
theorem Zjw:f_QO=Zg (Zl 3 (eOp addX (eC (.int 1)) (eOp modW (ZB 2 Yx [] (Zb (Za 0) (Zb (Za 1) eNil))) (eC (.int 5))))) (Zg w2 (Zg w3 (Zg w4 (Zg w5 (Zg w6 (U4 w7)))))):=rfl
section
variable{ns:List Int}{n m:Nat}{W:List Nat}{hs:List Int}
theorem Zjx(hm:1<=m)(hm5:m<=5){R:List (List Nat)}(hR:Rw m R)(h8:∀r∈R,r.length<=8){k:Nat}(hk:k<ns.length)(v8:Option D):∃R' w8,w5b (WE ns n m (some (.lst (W.map nD))) (some (.lst (hs.map D.int))) (some (PM R)) (some (nD k)) v8 none none)=some (.nx (WE ns n m (some (.lst (W.map nD))) (some (.lst (hs.map D.int))) (some (PM R')) (some (nD k)) w8 none none))/\Rw m R'/\∀r∈R',r.length<=8:=by
 have ek:∀v6 v8,eOp ixD (Za 0) (Za 7) (WE ns n m (some (.lst (W.map nD))) (some (.lst (hs.map D.int))) v6 (some (nD k)) v8 none none)=some (.int (ns.getD k 0)):=λv6 v8=>(Zi (x:=.lst (ns.map D.int)) (y:=nD k) rfl rfl).trans (ZhN hk)
 obtain⟨i,ei⟩:=JC (ns.getD k 0) (b:=7) (by decide) (by decide);obtain⟨p,ep,hp⟩:=Uv i hm;obtain⟨t,et,ht⟩:=Uv (ns.getD k 0) hm;have hpl:p<R.length:=by rw [hR.len];exact hp
 obtain⟨m1,m2⟩:=UJ hpl
 have t1:Xo 6 w5a (WE ns n m (some (.lst (W.map nD))) (some (.lst (hs.map D.int))) (some (PM R)) (some (nD k)) v8 none none)=some (.nx (WE ns n m (some (.lst (W.map nD))) (some (.lst (hs.map D.int))) (some (PM R)) (some (nD k)) (some (nD p)) none none)):=
  Zb1 (δ0:=WE ns n m (some (.lst (W.map nD))) (some (.lst (hs.map D.int))) none (some (nD k)) v8 none none) (δ':=WE ns n m (some (.lst (W.map nD))) (some (.lst (hs.map D.int))) none (some (nD k)) (some (nD p)) none none) rfl (ZK ((Zi ((Zi (ek _ _) rfl).trans ei) rfl).trans ep)) rfl rfl
 have er:eOp ixD (Za 6) (Za 8) (WE ns n m (some (.lst (W.map nD))) (some (.lst (hs.map D.int))) (some (PM R)) (some (nD k)) (some (nD p)) none none)=some (AD (R.getD p [])):=(Zi (x:=PM R) (y:=nD p) rfl rfl).trans (U9 (by rw [List.getElem?_map,m1];rfl))
 have ec:xB (eOp (Yu λi j=>decide (i<j)) (eCB lenD (Zb (eOp ixD (Za 6) (Za 8)) eNil)) (eC (.int 8))) (WE ns n m (some (.lst (W.map nD))) (some (.lst (hs.map D.int))) (some (PM R)) (some (nD k)) (some (nD p)) none none)=some (decide ((R.getD p []).length<8)):=
  ZY ((Zi (x:=nD (R.getD p []).length) (y:=nD 8) ((ZF (Zf er nil_of)).trans (by show some (D.int (((R.getD p []).map nD).length:Int))=_;rw [List.length_map])) rfl).trans (JA _ _))
 by_cases hl:(R.getD p []).length<8
 · rw [decide_eq_true hl]at ec
   refine⟨push R p t,some (nD p),(Zn t1).trans ((X5 ec).trans ((Zee (xs:=R.map AD) (r:=(R.getD p []).map nD) (j:=p) (d:=nD t) rfl rfl ((Zi (ek _ _) rfl).trans et) rfl (by rw [List.getElem?_map,m1];rfl) (by rw [List.length_map];omega)).trans ?_)),hR.push hp ht (by omega),λr hr => ?_⟩
   · rw [ZgD]
     rfl
   · rcases List.mem_or_eq_of_mem_set hr with z|z
     · exact h8 r z
     · subst z
       rw [List.length_append,List.length_singleton];omega
 · rw [decide_eq_false hl]at ec
   exact⟨R,some (nD p),(Zn t1).trans ((YK ec).trans rfl),hR,h8⟩
def Y7(W:List Nat)(r:List Nat):Nat:=(r.map λt=>W.getD t 0).sum
def bC:DL.Env->Option D:=(eOp ixD (Za 1) (Za 0))
structure Wts(m:Nat)(W:List Nat):Prop where
 len:W.length=m
 w1:∀w∈W,1<=w/\w<=5
theorem Wts.at{k:Nat}(h:Wts m W)(hk:k<m):ixD (.lst (W.map nD)) (nD k)=some (nD (W.getD k 0))/\1<=W.getD k 0/\W.getD k 0<=5:=by
 have hl:k<W.length:=by rw [h.len];exact hk
 have hg:W[k]? = some (W.getD k 0):=by
  rw [List.getD_eq_getElem?_getD,List.getElem?_eq_getElem hl];rfl
 exact⟨U9 (by rw [List.getElem?_map,hg];rfl),h.w1 _ (List.mem_of_getElem? hg)⟩
theorem ZfO(hW:Wts m W){R:List (List Nat)}(hR:Rw m R){k:Nat}(hk:k<m)(hn6:n<=6):Jn [.lst (W.map nD),PM R,nD k,nD n]=some (.bl (decide (n*W.getD k 0<=Y7 W (R.getD k [])))):=by
 have hkl:k<R.length:=by rw [hR.len];exact hk
 obtain⟨m1,m2⟩:=UJ hkl;obtain⟨a1,a2,a3⟩:=hW.at hk;refine YF (δ:=[some (.lst (W.map nD)),some (PM R),some (nD k),some (nD n)]) rfl (Ys ?_)
 have e1:eCB sumLD (Zb (ZC (ZH (eOp ixD (Za 1) (Za 2))) (Zm 0) (λ_=>some true) bC 1 [0]) eNil) [some (.lst (W.map nD)),some (PM R),some (nD k),some (nD n)]=some (nD (Y7 W (R.getD k []))):=by
  refine(ZF (Zf (Yp (δ0:=[none,some (.lst (W.map nD))]) (xs:=(R.getD k []).map nD) (ys:=((R.getD k []).map λt=>W.getD t 0).map nD) ?_ rfl ?_ ?_) nil_of)).trans (Jy _)
  · exact Za7 ((Zi (x:=PM R) (y:=nD k) rfl rfl).trans (U9 (by rw [List.getElem?_map,m1];rfl)))
  · rw [List.map_map]
    exact YL (ε:=bC) nD _ (R.getD k []) λt ht=>⟨[some (nD t),some (.lst (W.map nD))],rfl,(Zi (x:=.lst (W.map nD)) (y:=nD t) rfl rfl).trans (hW.at (hR.lt _ m2 t ht)).1⟩
  · rw [List.length_map,List.length_map]
    have:=hR.ln _ m2;omega
 have e2:eOp mulX (Za 3) (eOp ixD (Za 0) (Za 2)) [some (.lst (W.map nD)),some (PM R),some (nD k),some (nD n)]=some (.int ((n:Int)*(W.getD k 0:Nat))):=(Zi (x:=nD n) (y:=nD (W.getD k 0)) rfl ((Zi (x:=.lst (W.map nD)) (y:=nD k) rfl rfl).trans a1)).trans (Zaz (by omega) (by omega));refine(Zi e1 e2).trans ?_;show some (D.bl (decide ((n:Int)*(W.getD k 0:Nat)<=((Y7 W (R.getD k []):Nat):Int))))=_
 by_cases h:n*W.getD k 0<=Y7 W (R.getD k [])
 · rw [decide_eq_true h, decide_eq_true (by have h2 : ((n * W.getD k 0 : Nat) : Int) <= ((Y7 W (R.getD k []) : Nat) : Int) := by exact_mod_cast h
                                            push_cast at h2
                                            exact h2)]
 · rw [decide_eq_false h, decide_eq_false (fun z => h (by have z2 : ((n * W.getD k 0 : Nat) : Int) <= ((Y7 W (R.getD k []) : Nat) : Int) := by push_cast; exact z
                                                          exact_mod_cast z2))]
theorem ZbC(hW:Wts m W):∀r:List Nat,(∀t∈r,t<m)->r.length<=Y7 W r
 | [],_=>Nat.zero_le _
 |t::r,h=>by
  have ih:=ZbC hW r λx hx=>h x (List.mem_cons_of_mem _ hx)
  have:=(hW.at (h t List.mem_cons_self)).2.1;show r.length+1<=(W.getD t 0::r.map λt=>W.getD t 0).sum;rw [List.sum_cons];unfold Y7 at ih;omega
end
end K37
namespace K37
open DL L2
section
variable{ns:List Int}{n m:Nat}{W:List Nat}{hs:List Int}
abbrev WF(ns:List Int)(n m:Nat)(W:List Nat)(hs:List Int)(R:List (List Nat))(v7 v8 v9 v10:Option D):DL.Env:=WE ns n m (some (.lst (W.map nD))) (some (.lst (hs.map D.int))) (some (PM R)) v7 v8 v9 v10
def wM(k:Nat):DL.Env->Nat
 | [_,_,_,_,_,_,some (.lst xs),_,_,_,_]=>40-(match xs[k]? with
  |some (.lst r)=>r.length
  |_=>0)
 |_=>0
theorem ZiJ{R:List (List Nat)}{k:Nat}(hk:k<R.length)(v7 v8 v9 v10:Option D):wM k (WF ns n m W hs R v7 v8 v9 v10)=40-(R.getD k []).length:=by
 show 40-(match(R.map AD)[k]? with|some (.lst r)=>r.length|_=>0)=_;rw [List.getElem?_map,(UJ hk).1];show 40-((R.getD k []).map nD).length=_;rw [List.length_map]
theorem Zjy(hW:Wts m W)(hm:1<=m)(hm5:m<=5)(hn6:n<=6){R:List (List Nat)}(hR:Rw m R){k:Nat}(hk:k<m)(v7 v9:Option D):∃R' w9,w6b (WF ns n m W hs R v7 (some (nD k)) v9 none)=some (.nx (WF ns n m W hs R' v7 (some (nD k)) w9 none))/\Rw m R'/\n*W.getD k 0<=Y7 W (R'.getD k [])/\∀i,i≠k->R'.getD i []=R.getD i []:=by
 obtain⟨i,ei⟩:=JC (ns.getD (3+k) 0) (b:=20) (by decide) (by decide);obtain⟨t,et,ht⟩:=Uv i hm
 have hidx:eOp addX (eOp addX (Za 1) (eC (.int 1))) (Za 8) (WE ns n m (some (.lst (W.map nD))) (some (.lst (hs.map D.int))) none v7 (some (nD k)) v9 none)=some (nD (3+k)):=by
  refine(Zi (x:=.int 3) (y:=nD k) ((Zi (x:=nD 2) (y:=.int 1) rfl rfl).trans rfl) rfl).trans ((add_int _ _).trans ?_);rw [show((3:Int)+(k:Int))=((3+k:Nat):Int) by push_cast;rfl]
 have t1:Xo 6 w6a (WF ns n m W hs R v7 (some (nD k)) v9 none)=some (.nx (WF ns n m W hs R v7 (some (nD k)) (some (nD t)) none)):=
  Zb1 (δ0:=WE ns n m (some (.lst (W.map nD))) (some (.lst (hs.map D.int))) none v7 (some (nD k)) v9 none) (δ':=WE ns n m (some (.lst (W.map nD))) (some (.lst (hs.map D.int))) none v7 (some (nD k)) (some (nD t)) none) rfl (ZK ((Zi ((Zi ((Yh (n:=2) (Zf rfl (Zf hidx nil_of)) rfl).trans (Qa ns (3+k))) rfl).trans ei) rfl).trans et)) rfl rfl
 obtain⟨δ',h1,R',t',rfl,g1,g2,g3⟩:=ZaY (τ:=w6t) (φ:=w6w) (λδ=>∃R' t',δ=WF ns n m W hs R' v7 (some (nD k)) (some (nD t')) none/\Rw m R'/\t'<m/\∀i,i≠k->R'.getD i []=R.getD i []) (λδ=>∃R' t',δ=WF ns n m W hs R' v7 (some (nD k)) (some (nD t')) none/\Rw m R'/\n*W.getD k 0<=Y7 W (R'.getD k [])/\∀i,i≠k->R'.getD i []=R.getD i []) (wM k) (by
  rintro δ ⟨R',t',rfl,g1,g2,g3⟩
  have hkl:k<R'.length:=by rw [g1.len];exact hk
  obtain⟨m1,m2⟩:=UJ hkl;have hb:w6t (WF ns n m W hs R' v7 (some (nD k)) (some (nD t')) none)=some (!decide (n*W.getD k 0<=Y7 W (R'.getD k []))):=Zd8 (ZY ((Yh (n:=4) (Zf rfl (Zf rfl (Zf rfl (Zf rfl nil_of)))) rfl).trans (ZfO hW g1 hk hn6)))
  by_cases hz:n*W.getD k 0<=Y7 W (R'.getD k [])
  · rw [decide_eq_true hz]at hb
    exact .inl ⟨hb,R',t',rfl,g1,hz,g3⟩
  · rw [decide_eq_false hz]at hb
    have hlen:=ZbC hW _ (g1.lt _ m2);have hw5:=(hW.at hk).2.2;have hnw:n*W.getD k 0<=6*5:=Nat.mul_le_mul hn6 hw5;have hl:(R'.getD k []).length<30:=by omega
    have a1:Vi 6 (Za 8) (Za 9) (WF ns n m W hs R' v7 (some (nD k)) (some (nD t')) none)=some (.nx (WF ns n m W hs (push R' k t') v7 (some (nD k)) (some (nD t')) none)):=by
     refine(Zee (xs:=R'.map AD) (r:=(R'.getD k []).map nD) (j:=k) (d:=nD t') rfl rfl rfl rfl (by rw [List.getElem?_map,m1];rfl) (by rw [List.length_map];omega)).trans ?_;rw [ZgD];rfl
    have ea:eOp addX (Za 9) (eC (.int 1)) (WE ns n m (some (.lst (W.map nD))) (some (.lst (hs.map D.int))) none v7 (some (nD k)) (some (nD t')) none)=some (nD (t'+1)):=by
     refine(Zi (x:=nD t') (y:=.int 1) rfl rfl).trans ((add_int _ _).trans ?_);rw [show((t':Int)+1)=((t'+1:Nat):Int) by push_cast;rfl]
    have a2:Xo 6 w6c (WF ns n m W hs (push R' k t') v7 (some (nD k)) (some (nD t')) none)=some (.nx (WF ns n m W hs (push R' k t') v7 (some (nD k)) (some (nD ((t'+1) % m))) none)):=
     Zb1 (δ0:=WE ns n m (some (.lst (W.map nD))) (some (.lst (hs.map D.int))) none v7 (some (nD k)) (some (nD t')) none) (δ':=WE ns n m (some (.lst (W.map nD))) (some (.lst (hs.map D.int))) none v7 (some (nD k)) (some (nD ((t'+1) % m))) none) rfl (ZK ((Zi ea rfl).trans (UG hm))) rfl rfl
    refine .inr ⟨hb,_,(Zn a1).trans a2,⟨push R' k t',(t'+1) % m,rfl,g1.push hk g2 hl,Nat.mod_lt _ hm,λi hi => ?_⟩,?_⟩
    · rw [ZaC hkl,if_neg hi]
      exact g3 i hi
    · rw [ZiJ (by unfold push;rw [List.length_set];exact hkl),ZiJ hkl,ZaC hkl,if_pos rfl,List.length_append,List.length_singleton]
      omega) (WF ns n m W hs R v7 (some (nD k)) (some (nD t)) none) ⟨R,t,rfl,hR,ht,λ_ _=>rfl⟩
 exact⟨R',some (nD t'),(Zn t1).trans h1,g1,g2,g3⟩
theorem ZkT(hW:Wts m W)(hm:1<=m)(hm5:m<=5)(hn6:n<=6){R:List (List Nat)}(hR:Rw m R)(v7 v8:Option D):∃R' w8 w9,w6 (WF ns n m W hs R v7 v8 none none)=some (.nx (WF ns n m W hs R' v7 w8 w9 none))/\Rw m R'/\∀k<m,n*W.getD k 0<=Y7 W (R'.getD k []):=by
 obtain⟨δ',h1,R',w8,w9,rfl,g1,g2⟩:=UD (γ:=Zm 8) (φ:=w6b) nD (λdn δ=>∃R' w8 w9,δ=WF ns n m W hs R' v7 w8 w9 none/\Rw m R'/\∀i<dn.length,n*W.getD i 0<=Y7 W (R'.getD i [])) (List.range m) (by
  rintro dn x rest δ e ⟨R',w8,w9,rfl,g1,g2⟩
  obtain⟨rfl,hk⟩:=QD e;obtain⟨R2,x9,f1,f2,f3,f4⟩:=Zjy (ns:=ns) (hs:=hs) hW hm hm5 hn6 g1 hk v7 w9;refine⟨WF ns n m W hs R' v7 (some (nD dn.length)) w9 none,rfl,_,f1,R2,_,_,rfl,f2,λi hi => ?_⟩;rw [List.length_append,List.length_singleton]at hi
  by_cases h:i=dn.length
  · rw [h];exact f3
  · rw [f4 i h];exact g2 i (by omega)) (List.range m) [] (WF ns n m W hs R v7 v8 none none) rfl ⟨R,v8,none,rfl,hR,λi hi=>by cases hi⟩
 rw [List.length_range]at g2;exact⟨R',w8,w9,Xe ((Xy (j:=(m:Int)) (Zf rfl nil_of) (by omega) (by omega)).trans (by rw [Int.toNat_natCast,X9])) h1,g1,g2⟩
theorem ZkU(hm:1<=m)(hm5:m<=5)(hns:ns.length<=63){R:List (List Nat)}(hR:Rw m R)(h8:∀r∈R,r.length<=8):∃R' w7 w8,w5 (WF ns n m W hs R none none none none)=some (.nx (WF ns n m W hs R' w7 w8 none none))/\Rw m R':=by
 obtain⟨δ',h1,R',w7,w8,rfl,g1,g2⟩:=Qu (γ:=Zm 7) (φ:=w5b) (λδ=>∃R' w7 w8,δ=WF ns n m W hs R' w7 w8 none none/\Rw m R'/\∀r∈R',r.length<=8) (Z9 8 1 ((ns.length:Int)-8).toNat) (WF ns n m W hs R none none none none) ⟨R,none,none,rfl,hR,h8⟩ (by
  rintro x hx δ ⟨R',w7,w8,rfl,g1,g2⟩
  obtain⟨j,hj,rfl⟩:=ZbZ hx;have hk:8+j<ns.length:=by omega
  obtain⟨R2,x8,f1,f2,f3⟩:=Zjx (ns:=ns) (n:=n) (W:=W) (hs:=hs) hm hm5 g1 g2 hk w8;refine⟨WF ns n m W hs R' (some (nD (8+j))) w8 none none,?_,_,f1,R2,_,_,rfl,f2,f3⟩;rw [show(8:Int)+(j:Nat)*1=((8+j:Nat):Int) by push_cast;omega];rfl)
 refine⟨R',w7,w8,Xe ?_ h1,g1⟩
 have hl:eCB lenD (Zb (Za 0) eNil) (WF ns n m W hs R none none none none)=some (.int (ns.length:Int)):=by
  refine(ZF (Zf (x:=.lst (ns.map D.int)) rfl nil_of)).trans ?_;show some (D.int ((ns.map D.int).length:Int))=_;rw [List.length_map]
 exact Zgz (i:=8) (j:=(ns.length:Int)) (Zf ((Zi (x:=nD 2) (y:=.int 6) rfl rfl).trans rfl) (Zf hl nil_of)) (by omega) (by omega) (by omega) (by omega)
theorem ZkV(hm:1<=m)(hm5:m<=5){R:List (List Nat)}(hR:Rw m R)(v7 v8 v9:Option D):∃Y:List (List Way),w7 (WF ns n m W hs R v7 v8 v9 none)=some (.rt (ZM W hs Y))/\Y.length=m/\∀i<m,(Y.getD i []).map Prod.snd=R.getD i []/\(∀p∈Y.getD i [],p.1.length=3/\Xf p.1)/\(Y.getD i []).Nodup:=by
 obtain⟨i,ei⟩:=JC (ns.getD 1 0) (b:=2) (by decide) (by decide);obtain⟨tw,et,_⟩:=Uv i (m:=2) (by decide)
 obtain⟨δ',h1,Y,w8,rfl,g1,g2⟩:=UD (γ:=Zm 8) (φ:=w7b) nD (λdn δ=>∃(Y:List (List Way)) (w8:Option D),δ=WF ns n m W hs R v7 w8 v9 (some (.lst (Y.map rowD)))/\Y.length=dn.length/\∀i<dn.length,(Y.getD i []).map Prod.snd=R.getD i []/\(∀p∈Y.getD i [],p.1.length=3/\Xf p.1)/\(Y.getD i []).Nodup) (List.range m) (by
  rintro dn x rest δ e ⟨Y,w8,rfl,g1,g2⟩
  obtain⟨rfl,hk⟩:=QD e;have hkl:dn.length<R.length:=by rw [hR.len];exact hk
  obtain⟨m1,m2⟩:=UJ hkl;obtain⟨ws,f1,f2,f3⟩:=ZfN (R.getD dn.length []) (tw:Int) (by have:=hR.ln _ m2;omega);have er:eOp ixD (Za 6) (Za 8) (WF ns n m W hs R v7 (some (nD dn.length)) v9 (some (.lst (Y.map rowD))))=some (AD (R.getD dn.length [])):=(Zi (x:=PM R) (y:=nD dn.length) rfl rfl).trans (U9 (by rw [List.getElem?_map,m1];rfl));have ew:eOp modW (eOp fdivW (ZB 2 Yx [] (Zb (Za 0) (Zb (eC (.int 1)) eNil))) (eC (.int 2))) (eC (.int 2)) (WF ns n m W hs R v7 (some (nD dn.length)) v9 (some (.lst (Y.map rowD))))=some (.int (tw:Int)):=(Zi ((Zi ((Yh (n:=2) (Zf rfl (Zf (x:=.int (1:Nat)) rfl nil_of)) rfl).trans (Qa ns 1)) rfl).trans ei) rfl).trans et
  refine⟨WF ns n m W hs R v7 (some (nD dn.length)) v9 (some (.lst (Y.map rowD))),rfl,WF ns n m W hs R v7 (some (nD dn.length)) v9 (some (.lst ((Y++[ws]).map rowD))),?_,Y++[ws],_,rfl,?_,λi hi => ?_⟩
  · refine(Us (xs:=Y.map rowD) (d:=rowD ws) rfl ((Yh (n:=2) (Zf er (Zf ew nil_of)) rfl).trans f1) (by rw [List.length_map];omega)).trans ?_
    rw [List.map_append];rfl
  · rw [List.length_append,List.length_append,List.length_singleton,List.length_singleton,g1]
  · rw [List.length_append,List.length_singleton]at hi
    by_cases h:i=dn.length
    · subst h
      have:(Y++[ws]).getD dn.length []=ws:=by
       rw [List.getD_eq_getElem?_getD,List.getElem?_append_right (by omega),g1,Nat.sub_self];rfl
      rw [this];exact⟨f2,f3⟩
    · have : (Y ++ [ws]).getD i [] = Y.getD i [] := by
       rw [List.getD_eq_getElem?_getD,List.getElem?_append_left (by omega),<-List.getD_eq_getElem?_getD]
      rw [this];exact g2 i (by omega)) (List.range m) [] (WF ns n m W hs R v7 v8 v9 (some (.lst (([]:List (List Way)).map rowD)))) rfl ⟨[],v8,rfl,rfl,λi hi=>by cases hi⟩
 rw [List.length_range]at g1 g2;refine⟨Y,?_,g1,g2⟩;refine(Zn (δ':=WF ns n m W hs R v7 v8 v9 (some (.lst (([]:List (List Way)).map rowD)))) (ZK (Xq (ds:=[]) rfl (by decide)))).trans ((Zn (Xe ((Xy (j:=(m:Int)) (Zf rfl nil_of) (by omega) (by omega)).trans (by rw [Int.toNat_natCast,X9])) h1)).trans (Ys (VR ?_ (by show 3<=1000;decide))));exact Zf ((ZF (Zf (x:=.lst (hs.map D.int)) rfl nil_of)).trans rfl) (Zf ((ZF (Zf (x:=.lst (W.map nD)) rfl nil_of)).trans rfl) (Zf ((ZF (Zf (x:=.lst (Y.map rowD)) rfl nil_of)).trans rfl) nil_of))
end
end K37
namespace K37
open DL L2
theorem Zb4(a:Nat):addX (.int 1) (nD a)=some (nD (1+a)):=by
 refine(add_int _ _).trans ?_;rw [show((1:Int)+(a:Int))=((1+a:Nat):Int) by push_cast;rfl]
section
variable{ns:List Int}{n m:Nat}{W:List Nat}{hs:List Int}
abbrev BE(ns:List Int)(k:Nat):DL.Env:=[some (nD k),some (.lst (ns.map D.int)),some (nD 2)]
theorem ZgE(k:Nat):ZB 2 Yx [] (Zb (Za 1) (Zb (eOp addX (eOp addX (Za 2) (eC (.int 1))) (Za 0)) eNil)) (BE ns k)=some (.int (ns.getD (3+k) 0)):=by
 refine(Yh (n:=2) (Zf rfl (Zf (x:=nD (3+k)) ?_ nil_of)) rfl).trans (Qa ns (3+k));refine(Zi (x:=.int 3) (y:=nD k) ((Zi (x:=nD 2) (y:=.int 1) rfl rfl).trans rfl) rfl).trans ((add_int _ _).trans ?_);rw [show((3:Int)+(k:Int))=((3+k:Nat):Int) by push_cast;rfl]
theorem ZkW(hm5:m<=5):∃W,Wts m W/\w2 (WE ns n m none none none none none none none)=some (.nx (WE ns n m (some (.lst (W.map nD))) none none none none none none)):=by
 have XG:∀k:Nat,∃a:Nat,w2e (BE ns k)=some (nD a)/\1<=a/\a<=5:=λk=>by
  obtain⟨a,e,ha⟩:=Uv (ns.getD (3+k) 0) (m:=5) (by decide);exact⟨1+a,(Zi (x:=.int 1) (y:=nD a) rfl ((Zi (ZgE k) rfl).trans e)).trans (Zb4 a),by omega,by omega⟩
 refine⟨(List.range m).map λk=>Classical.choose (XG k),⟨by rw [List.length_map,List.length_range],λw hw => ?_⟩,?_⟩
 · obtain⟨k,_,rfl⟩:=List.mem_map.mp hw
   exact(Classical.choose_spec (XG k)).2
 · refine ZK (Yp (δ0:=[none,some (.lst (ns.map D.int)),some (nD 2)]) (xs:=(List.range m).map nD) ?_ rfl ?_ ?_)
   · refine(Xy (j:=(m:Int)) (Zf rfl nil_of) (by omega) (by omega)).trans ?_
     rw [Int.toNat_natCast,X9]
   · rw [List.map_map]
     exact YL (ε:=w2e) nD _ (List.range m) λk _=>⟨BE ns k,rfl,(Classical.choose_spec (XG k)).1⟩
   · rw [List.length_map,List.length_map,List.length_range]
     omega
theorem ZkX(hm5:m<=5)(v4:Option D):∃hs:List Int,hs.length=m/\w3 (WE ns n m v4 none none none none none none)=some (.nx (WE ns n m v4 (some (.lst (hs.map D.int))) none none none none none)):=by
 have XG:∀k:Nat,∃a:Int,w3e (BE ns k)=some (.int a):=λk=>by
  obtain⟨i,ei⟩:=JC (ns.getD (3+k) 0) (b:=5) (by decide) (by decide);obtain⟨a,e,ha⟩:=Uv i (m:=4) (by decide);exact⟨a,(Zi ((Zi (ZgE k) rfl).trans ei) rfl).trans e⟩
 refine⟨(List.range m).map λk=>Classical.choose (XG k),by rw [List.length_map,List.length_range],?_⟩
 · refine ZK (Yp (δ0:=[none,some (.lst (ns.map D.int)),some (nD 2)]) (xs:=(List.range m).map nD) ?_ rfl ?_ ?_)
   · refine(Xy (j:=(m:Int)) (Zf rfl nil_of) (by omega) (by omega)).trans ?_
     rw [Int.toNat_natCast,X9]
   · rw [List.map_map]
     exact YL (ε:=w3e) nD _ (List.range m) λk _=>⟨BE ns k,rfl,Classical.choose_spec (XG k)⟩
   · rw [List.length_map,List.length_map,List.length_range]
     omega
def V6(m:Nat):List (List Nat):=(List.range m).map λk=>[(k+1) % m]
theorem Zh2{k:Nat}(hk:k<m):(V6 m).getD k []=[(k+1) % m]:=by
 unfold V6;rw [List.getD_eq_getElem?_getD,List.getElem?_map,List.getElem?_range hk];rfl
theorem Zh3(hm:1<=m):Rw m (V6 m):=by
 refine⟨by unfold V6;rw [List.length_map,List.length_range],λr hr t ht => ?_,λr hr => ?_,λk hk => ?_⟩
 · obtain⟨k,_,rfl⟩:=List.mem_map.mp hr
   rw [List.mem_singleton.mp ht];exact Nat.mod_lt _ hm
 · obtain⟨k,_,rfl⟩:=List.mem_map.mp hr
   show 1<=30
   decide
 · rw [Zh2 hk]
   exact List.mem_singleton.mpr rfl
theorem ZkY(hm:1<=m)(hm5:m<=5)(v4 v5:Option D):w4 (WE ns n m v4 v5 none none none none none)=some (.nx (WE ns n m v4 v5 (some (PM (V6 m))) none none none none)):=by
 refine Zjp (d:=PM (V6 m)) (Zh1 (Yp (δ0:=[none,some (nD m)]) (xs:=(List.range m).map nD) ?_ rfl ?_ ?_) (ZbB (V6 m))) (by show 6<11;decide)
 · refine(Xy (j:=(m:Int)) (Zf rfl nil_of) (by omega) (by omega)).trans ?_
   rw [Int.toNat_natCast,X9]
 · unfold V6
   rw [List.map_map];refine YL (ε:=w4e) nD _ (List.range m) λk _=>⟨[some (nD k),some (nD m)],rfl,Xq (ds:=[nD ((k+1) % m)]) (Zf ?_ nil_of) (by show 1<=1000;decide)⟩
   refine(Zi (x:=nD (k+1)) (y:=nD m) ((Zi (x:=nD k) (y:=.int 1) rfl rfl).trans ((add_int _ _).trans ?_)) rfl).trans (UG hm);rw [show((k:Int)+1)=((k+1:Nat):Int) by push_cast;rfl]
 · unfold V6
   rw [List.length_map,List.length_map,List.length_range];omega
theorem Zjz(W:List Nat)(r:List Way):(r.map λp=>W.getD p.2 0).sum=Y7 W (r.map Prod.snd):=by
 unfold Y7;rw [List.map_map];rfl
theorem ZdA:∀(l:List Nat)(b:Nat),(∀x∈l,x<=b)->l.sum<=l.length*b
 | [],_,_=>Nat.zero_le _
 |a::l,b,h=>by
  rw [List.length_cons,List.sum_cons,Nat.succ_mul];have h1:=ZdA l b λx hx=>h x (List.mem_cons_of_mem _ hx)
  have h2:=h a List.mem_cons_self;omega
theorem Zh4{Y:List (List Way)}(hm:1<=m)(hr:∀k<m,∃p∈Y.getD k [],p.2=(k+1) % m)(S:Nat->Prop)(hc:∀k<m,S k->∀p∈Y.getD k [],S p.2)(a:Nat)(ha:a<m)(h0:S a)(b:Nat)(hb:b<m):S b:=by
 have run:∀j,S ((a+j) % m):=by
  intro j
  induction j with
  |zero=>rw [Nat.add_zero,Nat.mod_eq_of_lt ha];exact h0
  |succ j ih=>
   obtain⟨p,hp,e⟩:=hr ((a+j) % m) (Nat.mod_lt _ hm);have:=hc _ (Nat.mod_lt _ hm) ih p hp
   rwa [e,Nat.add_mod ((a+j) % m) 1 m,Nat.mod_mod,<-Nat.add_mod,Nat.add_assoc]at this
 have:=run (b+m-a)
 rwa [show a+(b+m-a)=b+m by omega,Nat.add_mod_right,Nat.mod_eq_of_lt hb]at this
theorem ZjA(hns:ns.length<=63)(hn1:1<=n)(hn6:n<=6):∃m W hs Y,Ok n m W hs Y/\(∀r∈Y,r.length<=30)/\Qx [.lst (ns.map D.int),nD 2,nD n]=some (ZM W hs Y):=by
 obtain⟨a,ea,ha⟩:=Uv (ns.getD 2 0) (m:=5) (by decide);have hm:1<=1+a:=by omega
 have hm5:1+a<=5:=by omega
 obtain⟨W,hW,t2⟩:=ZkW (ns:=ns) (n:=n) hm5;obtain⟨hs,lh,t3⟩:=ZkX (ns:=ns) (n:=n) hm5 (some (.lst (W.map nD)));have t4:=ZkY (ns:=ns) (n:=n) hm hm5 (some (.lst (W.map nD))) (some (.lst (hs.map D.int)))
 obtain⟨R5,u7,u8,t5,r5⟩:=ZkU (ns:=ns) (n:=n) (W:=W) (hs:=hs) hm hm5 hns (Zh3 hm) (λr hr=>by
  obtain⟨k,_,rfl⟩:=List.mem_map.mp hr;show 1<=8
  decide)
 obtain⟨R6,x8,x9,t6,r6,b6⟩:=ZkT (ns:=ns) (n:=n) (W:=W) (hs:=hs) hW hm hm5 hn6 r5 u7 u8;obtain⟨Y,t7,ly,hy⟩:=ZkV (ns:=ns) (n:=n) (W:=W) (hs:=hs) hm hm5 r6 u7 x8 x9
 have rowY:∀r∈Y,∃i<1+a,r.map Prod.snd=R6.getD i []/\R6.getD i []∈R6/\(∀p∈r,p.1.length=3/\Xf p.1)/\r.Nodup:=λr hr=>by
  obtain⟨i,hi,e⟩:=List.getElem_of_mem hr
  have e2:Y.getD i []=r:=by
   rw [List.getD_eq_getElem?_getD,List.getElem?_eq_getElem hi,e];rfl
  have hi2:i<1+a:=by omega
  obtain⟨y1,y2⟩:=hy i hi2;rw [e2]at y1 y2;exact⟨i,hi2,y1,(UJ (by rw [r6.len];exact hi2)).2,y2⟩
 refine⟨1+a,W,hs,Y,?_,λr hr => ?_,YF (δ:=[some (.lst (ns.map D.int)),some (nD 2),some (nD n),none,none,none,none,none,none,none,none]) rfl ?_⟩
 · have wle:∀i<1+a,W.getD i 0<=5:=λi hi=>(hW.at hi).2.2
   refine⟨hm,hn1,hn6,hW.len,lh,ly,hW.w1,?_,λr hr => ?_,λr hr p hp => ?_,λr hr => ?_,λr hr => ?_,Zh4 hm λk hk => ?_,λk hk => ?_⟩
   · have h1:=ZdA W 5 λx hx=>(hW.w1 x hx).2
     rw [hW.len]at h1;omega
   · obtain⟨i,_,e1,e2,_⟩:=rowY r hr
     have h0:=r6.ln _ e2;rw [<-e1,List.length_map]at h0
     have h1:=ZdA (r.map λp=>W.getD p.2 0) 5 λx hx=>by
      obtain⟨p,hp,rfl⟩:=List.mem_map.mp hx;exact wle _ (r6.lt _ e2 p.2 (by rw [<-e1];exact List.mem_map.mpr ⟨p,hp,rfl⟩))
     rw [List.length_map]at h1;omega
   · obtain⟨i,_,e1,e2,_⟩:=rowY r hr
     refine r6.lt _ e2 p.2 ?_;rw [<-e1];exact List.mem_map.mpr ⟨p,hp,rfl⟩
   · obtain⟨i,_,_,_,e3⟩:=rowY r hr
     exact e3.1
   · obtain⟨i,_,_,_,e3⟩:=rowY r hr
     exact e3.2
   · have:=r6.st k hk
     rw [<-(hy k hk).1]at this;obtain⟨p,hp,e⟩:=List.mem_map.mp this;exact⟨p,hp,e⟩
   · rw [Zjz,(hy k hk).1]
     exact b6 k hk
 · obtain⟨i,_,e1,e2,_⟩:=rowY r hr
   have h0:=r6.ln _ e2
   rwa [<-e1,List.length_map]at h0
 · rw [Zjw]
   have t1:Zl 3 (eOp addX (eC (.int 1)) (eOp modW (ZB 2 Yx [] (Zb (Za 0) (Zb (Za 1) eNil))) (eC (.int 5)))) [some (.lst (ns.map D.int)),some (nD 2),some (nD n),none,none,none,none,none,none,none,none]=some (.nx (WE ns n (1+a) none none none none none none none)):=
    ZK ((Zi (x:=.int 1) (y:=nD a) rfl ((Zi ((Yh (n:=2) (Zf rfl (Zf (x:=nD 2) rfl nil_of)) rfl).trans (Qa ns 2)) rfl).trans ea)).trans (Zb4 a))
   exact(Zn t1).trans ((Zn t2).trans ((Zn t3).trans ((Zn t4).trans ((Zn t5).trans ((Zn t6).trans (Zjv t7))))))
theorem ZcL:∀{r:List Way},(∀p∈r,Xf p.1)->PySem.PyData.canLayAll0 (Yi (r.map wyD))=true
 | [],_=>rfl
 |p::r,h=>by
  rw [List.map_cons,Yi,PySem.PyData.canLayAll0,ZcL λq hq=>h q (List.mem_cons_of_mem _ hq),Bool.and_true];have:=ZfD (h p List.mem_cons_self);simp [wyD,toP,Yi,PySem.PyData.canLay0,PySem.PyData.canLayAll0,this]
theorem ZcM:∀r:List Way,PySem.PyData.depthAll (Yi (r.map wyD))<=1
 | []=>Nat.zero_le _
 |p::r=>by
  rw [List.map_cons,Yi,PySem.PyData.depthAll];have ih:=ZcM r;have:(toP (wyD p)).depth=1:=by simp [wyD,toP,Yi,PySem.PyData.depth,PySem.PyData.depthAll]
  omega
theorem ZcN:∀{Y:List (List Way)},(∀r∈Y,∀p∈r,Xf p.1)->PySem.PyData.canLayAll0 (Yi (Y.map rowD))=true
 | [],_=>rfl
 |r::Y,h=>by
  rw [List.map_cons,Yi,PySem.PyData.canLayAll0,ZcN λq hq=>h q (List.mem_cons_of_mem _ hq),Bool.and_true];have:=ZcL (h r List.mem_cons_self);simp [rowD,toP,PySem.PyData.canLay0,this]
theorem ZcO:∀Y:List (List Way),PySem.PyData.depthAll (Yi (Y.map rowD))<=2
 | []=>Nat.zero_le _
 |r::Y=>by
  rw [List.map_cons,Yi,PySem.PyData.depthAll];have ih:=ZcO Y;have:=ZcM r
  have:(toP (rowD r)).depth<=2:=by
   show PySem.PyData.depthAll (Yi (r.map wyD))+1<=2;omega
  omega
end
end K37
namespace K37
open DL L2
theorem ZdB:∀{a b:List Nat},a.Pairwise (· < ·)->b.Pairwise (· < ·)->(∀t,t∈a ↔ t∈b)->a=b
 | [],[],_,_,_=>rfl
 | [],y::b,_,_,h=>by
  have:=(h y).mpr List.mem_cons_self;cases this
 |x::a,[],_,_,h=>by
  have:=(h x).mp List.mem_cons_self;cases this
 |x::a,y::b,ha,hb,h=>by
  obtain⟨a1,a2⟩:=List.pairwise_cons.mp ha;obtain⟨b1,b2⟩:=List.pairwise_cons.mp hb
  have e:x=y:=by
   rcases List.mem_cons.mp ((h x).mp List.mem_cons_self)with z|z
   · exact z
   · rcases List.mem_cons.mp ((h y).mpr List.mem_cons_self)with w|w
     · exact w.symm
     · have:=b1 x z
       have:=a1 y w;omega
  subst e
  have:a=b:=ZdB a2 b2 λt=>⟨λz=>by
   rcases List.mem_cons.mp ((h t).mp (List.mem_cons_of_mem _ z))with w|w
   · have:=a1 t z
     omega
   · exact w,λz=>by
   rcases List.mem_cons.mp ((h t).mpr (List.mem_cons_of_mem _ z))with w|w
   · have:=b1 t z
     omega
   · exact w⟩
  rw [this]
theorem ZjB(w:Way):ixD (wyD w) (.int 0)=some (.str w.1):=ix_tup (a:=0) rfl
def dbl(place new:Nat)(p:Way):List Way:=if p.2=place then [p,(p.1,new)]else [p]
def Zu(place new:Nat)(r:List Way):List Way:=r.flatMap (dbl place new)
theorem ZcP{place new:Nat}:∀{r:List Way},place∉r.map Prod.snd->Zu place new r=r
 | [],_=>rfl
 |p::r,h=>by
  rw [List.map_cons,List.mem_cons]at h;have ih:=ZcP (new:=new) λz=>h (.inr z)
  unfold Zu at ih ⊢;rw [List.flatMap_cons,ih];unfold dbl;rw [if_neg λz=>h (.inl z.symm)];rfl
theorem QE(place new:Nat):∀r:List Way,(Zu place new r).length<=2*r.length
 | []=>Nat.le_refl _
 |p::r=>by
  have ih:=QE place new r;unfold Zu at ih ⊢;rw [List.flatMap_cons,List.length_append,List.length_cons]
  have:(dbl place new p).length<=2:=by
   unfold dbl
   by_cases h:p.2=place
   · rw [if_pos h];exact Nat.le_refl _
   · rw [if_neg h];exact(show 1<=2 by decide)
  omega
abbrev UE(X:D)(place new:Nat)(F:List Way)(v4:Option D):DL.Env:=[some X,some (nD place),some (nD new),some (.lst (F.map wyD)),v4]
def uC:DL.Env->Option D:=(eOp ixD (Za 0) (eC (.int 1)))
def uB:DL.Env->Option Out:=(Zg (Yr 3 (Za 4)) (sIf (xB (eOp eqD (eOp ixD (Za 4) (eC (.int 1))) (Za 1))) (Yr 3 (Yl (Zb (eOp ixD (Za 4) (eC (.int 0))) (Zb (Za 2) eNil)))) sNext))
theorem Zdj:f_QQ=Zg (sIf (xB (eOp (inD true) (Za 1) (ZC (ZH (Za 0)) (Zm 0) (λ_=>some true) uC 1 []))) (ZE (Za 0)) sNext) (Zg (Zl 3 (ZS eNil)) (Zg (Z5 (ZH (Za 0)) (Zm 4) uB) (ZE (eCB ZO (Zb (Za 3) eNil))))):=rfl
def kd(q:Bool×List Way):D:=if q.1 then rowD q.2 else .lst (q.2.map wyD)
def dD(place new:Nat)(q:Bool×List Way):D:=if place∈q.2.map Prod.snd then rowD (Zu place new q.2)else kd q
theorem ZiK(q:Bool×List Way){ε:DL.Env->Option D}{δ:DL.Env}(h:ε δ=some (kd q)):ZH ε δ=some (q.2.map wyD):=by
 unfold ZH;rw [h];unfold kd;cases q.1 with
 |true=>rfl
 |false=>rfl
theorem Zdk{q:Bool×List Way}{place new:Nat}(hl:q.2.length<=300):Jk [kd q,nD place,nD new]=some (dD place new q):=by
 refine YF (δ:=[some (kd q),some (nD place),some (nD new),none,none]) rfl ?_;rw [Zdj]
 have c:xB (eOp (inD true) (Za 1) (ZC (ZH (Za 0)) (Zm 0) (λ_=>some true) uC 1 [])) [some (kd q),some (nD place),some (nD new),none,none]=some (!decide (place∈q.2.map Prod.snd)):=by
  refine ZY ((Zi (x:=nD place) (y:=AD (q.2.map Prod.snd)) rfl (Yp (δ0:=[none]) (xs:=q.2.map wyD) (ZiK q rfl) rfl ?_ ?_)).trans (Zg1 _ _))
  · rw [List.map_map]
    exact YL (ε:=uC) wyD _ q.2 λp _=>⟨[some (wyD p)],rfl,(Zi (x:=wyD p) (y:=.int 1) rfl rfl).trans (V5 p)⟩
  · rw [List.length_map,List.length_map]
    omega
 unfold dD
 by_cases hz:place∈q.2.map Prod.snd
 · rw [decide_eq_true hz]at c
   rw [if_pos hz]
   obtain⟨δ',h1,w4,rfl⟩:=UD (γ:=Zm 4) (φ:=uB) wyD (λdn δ=>∃w4,δ=UE (kd q) place new (Zu place new dn) w4) q.2 (by
    rintro dn x rest δ e ⟨w4,rfl⟩
    have hdn:dn.length<=300:=by
     have:=congrArg List.length e;rw [List.length_append,List.length_cons]at this;omega
    have hb:=QE place new dn;refine⟨UE (kd q) place new (Zu place new dn) (some (wyD x)),rfl,UE (kd q) place new (Zu place new (dn++[x])) (some (wyD x)),?_,_,rfl⟩
    have es:Zu place new (dn++[x])=Zu place new dn++dbl place new x:=by
     unfold Zu;rw [List.flatMap_append];simp
    rw [es]
    have a1:Yr 3 (Za 4) (UE (kd q) place new (Zu place new dn) (some (wyD x)))=some (.nx (UE (kd q) place new (Zu place new dn++[x]) (some (wyD x)))):=by
     refine(Us (xs:=(Zu place new dn).map wyD) (d:=wyD x) rfl rfl (by rw [List.length_map];omega)).trans ?_;have em:(Zu place new dn).map wyD++[wyD x]=(Zu place new dn++[x]).map wyD:=by rw [List.map_append];rfl
     rw [em];rfl
    refine(Zn a1).trans ?_;have c1:xB (eOp eqD (eOp ixD (Za 4) (eC (.int 1))) (Za 1)) (UE (kd q) place new (Zu place new dn++[x]) (some (wyD x)))=some (decide (x.2=place)):=ZY ((Zi ((Zi (x:=wyD x) (y:=.int 1) rfl rfl).trans (V5 x)) rfl).trans (UI _ _));unfold dbl
    by_cases hx:x.2=place
    · rw [decide_eq_true hx]at c1
      rw [if_pos hx];refine(X5 c1).trans ((Us (xs:=(Zu place new dn++[x]).map wyD) (d:=wyD (x.1,new)) rfl (VR (Zf ((Zi (x:=wyD x) (y:=.int 0) rfl rfl).trans (ZjB x)) (Zf rfl nil_of)) (by show 2<=1000;decide)) (by rw [List.length_map,List.length_append,List.length_singleton];omega)).trans ?_)
      have em:(Zu place new dn++[x]).map wyD++[wyD (x.1,new)]=(Zu place new dn++[x,(x.1,new)]).map wyD:=by
       rw [List.map_append,List.map_append,List.append_assoc];rfl
      rw [em];rfl
    · rw [decide_eq_false hx]at c1
      rw [if_neg hx];exact(YK c1).trans rfl) q.2 [] (UE (kd q) place new [] none) rfl ⟨none,rfl⟩
   refine(Zn (δ':=[some (kd q),some (nD place),some (nD new),none,none]) ((YK c).trans rfl)).trans ?_;exact(Zn (δ':=UE (kd q) place new [] none) (ZK (Xq (ds:=[]) rfl (by decide)))).trans ((Zn (Xe (xs:=q.2.map wyD) (ZiK q rfl) h1)).trans (Ys ((ZF (Zf (x:=.lst ((Zu place new q.2).map wyD)) rfl nil_of)).trans rfl)))
 · rw [decide_eq_false hz]at c
   rw [if_neg hz];exact U8 ((X5 c).trans (Ys rfl))
theorem ZjC{q:Bool×List Way}{place new:Nat}(hl:q.2.length<=300):UB [dD place new q]=some (rowD (Zu place new q.2)):=by
 have:=QE place new q.2;unfold dD
 by_cases hz:place∈q.2.map Prod.snd
 · rw [if_pos hz]
   exact Jx _ (by omega)
 · rw [if_neg hz,ZcP hz]
   unfold kd;cases q.1 with
   |true=>exact Jx _ (by omega)
   |false=>exact ZgA _ (by omega)
def Zlt(hs:List Int)(ws:List D)(Y:List (List Way)):D := .obj "Web" ["homes", "weights", "ways"] [HD hs,.tup ws,YD Y]
theorem ZjD{hs:List Int}{ws:List D}{Y:List (List Way)}{Zs:List D}(hz:Ym (Zm 0) (λ_=>some true) kE [none] Zs=some (Y.map rowD))(hl:Y.length<=100) :
 VU [.obj "Web" [] [],.lst (hs.map D.int),.lst ws,.lst Zs]=some (Zlt hs ws Y):=by
 have he:∀x0,eCB ZO (Zb (ZC (ZH (Za 3)) (Zm 0) (λ_=>some true) kE 1 []) eNil) [x0,some (.lst (hs.map D.int)),some (.lst ws),some (.lst Zs)]=some (YD Y):=λx0=>
  (ZF (Zf (Yp (δ0:=[none]) (xs:=Zs) rfl rfl hz (by rw [List.length_map];omega)) nil_of)).trans rfl
 have hq:f_QP [some (.obj "Web" [] []),some (.lst (hs.map D.int)),some (.lst ws),some (.lst Zs)]=some (.nx [some (Zlt hs ws Y),some (.lst (hs.map D.int)),some (.lst ws),some (.lst Zs)]):=by
  show Zg (YG 0 XR "homes" (eCB ZO (Zb (Za 1) eNil))) (Zg (YG 0 XS "weights" (eCB ZO (Zb (Za 2) eNil))) (YG 0 Xz "ways" (eCB ZO (Zb (ZC (ZH (Za 3)) (Zm 0) (λ_=>some true) kE 1 []) eNil)))) _=_
  rw [Zn (δ':=[some (.obj "Web" ["homes"] [HD hs]),some (.lst (hs.map D.int)),some (.lst ws),some (.lst Zs)]) (by
   unfold YG;rw [show eCB ZO (Zb (Za 1) eNil) [some (.obj "Web" [] []),some (.lst (hs.map D.int)),some (.lst ws),some (.lst Zs)]=some (HD hs)from(ZF (Zf (x:=.lst (hs.map D.int)) rfl nil_of)).trans rfl];rfl)]
  rw [Zn (δ':=[some (.obj "Web" ["homes", "weights"] [HD hs,.tup ws]),some (.lst (hs.map D.int)),some (.lst ws),some (.lst Zs)]) (by
   unfold YG;rw [show eCB ZO (Zb (Za 2) eNil) [some (.obj "Web" ["homes"] [HD hs]),some (.lst (hs.map D.int)),some (.lst ws),some (.lst Zs)]=some (.tup ws)from(ZF (Zf (x:=.lst ws) rfl nil_of)).trans rfl];rfl)]
  unfold YG;rw [he];rfl
 show(match f_QP [some (.obj "Web" [] []),some (.lst (hs.map D.int)),some (.lst ws),some (.lst Zs)]with
  |some (.nx δ)=>Za 0 δ
  |_=>none)=_
 rw [hq];rfl
end K37
namespace K37
open DL L2
def enN:Nat->List Way->List (Nat×Way)
 |_,[]=>[]
 |k,p::r=>(k,p)::enN (k+1) r
def enD(q:Nat×Way):D := .tup [nD q.1,wyD q.2]
theorem ZcQ:∀(k:Nat)(r:List Way),XN k (r.map wyD)=(enN k r).map enD
 |_,[]=>rfl
 |k,p::r=>by
  show D.tup [nD k,wyD p]::XN (k+1) (r.map wyD)=enD (k,p)::(enN (k+1) r).map enD;rw [ZcQ (k+1) r];rfl
theorem Zb5:∀(k:Nat)(r:List Way),(enN k r).length=r.length
 |_,[]=>rfl
 |k,p::r=>by
  show(enN (k+1) r).length+1=r.length+1;rw [Zb5]
theorem Zef:∀{k:Nat}{r:List Way}{p:Way},p∈r->∃i,(i,p)∈enN k r
 |k,q::r,p,h=>by
  rcases List.mem_cons.mp h with z|z
  · exact⟨k,by rw [z];exact List.mem_cons_self⟩
  · obtain⟨i,hi⟩:=Zef (k:=k+1) z
    exact⟨i,List.mem_cons_of_mem _ hi⟩
theorem ZgF:∀{k:Nat}{r:List Way}{i:Nat}{p:Way},(i,p)∈enN k r->p∈r
 |k,q::r,i,p,h=>by
  rcases List.mem_cons.mp h with z|z
  · rw [(Prod.mk.injEq .. ▸ z:i=k/\p=q).2];exact List.mem_cons_self
  · exact List.mem_cons_of_mem _ (ZgF z)
def Zq(b:Bool)(picks:List Nat)(r:List Way):List Way:=((enN 0 r).filter λq=>decide (q.1∈picks) == b).map Prod.snd
theorem JD(b:Bool)(picks:List Nat)(r:List Way):(Zq b picks r).length<=r.length:=by
 unfold Zq;rw [List.length_map];exact Nat.le_trans (List.length_filter_le _ _) (Nat.le_of_eq (Zb5 0 r))
theorem Qb{b:Bool}{picks:List Nat}{r:List Way}{p:Way}(h:p∈Zq b picks r):p∈r:=by
 obtain⟨⟨i,q⟩,hq,rfl⟩:=List.mem_map.mp h;exact ZgF (List.mem_filter.mp hq).1
theorem ZeU{picks:List Nat}{r:List Way}{p:Way}(h:p∈r):p∈Zq true picks r\/p∈Zq false picks r:=by
 obtain⟨i,hi⟩:=Zef (k:=0) h
 by_cases z:i∈picks
 · exact .inl (List.mem_map.mpr ⟨(i,p),List.mem_filter.mpr ⟨hi,by simp [z]⟩,rfl⟩)
 · exact .inr (List.mem_map.mpr ⟨(i,p),List.mem_filter.mpr ⟨hi,by simp [z]⟩,rfl⟩)
theorem ZaD{α:Type}{γ:D->DL.Env->Option DL.Env}{τ:DL.Env->Option Bool}{ε:DL.Env->Option D}{δ0:DL.Env}(g f:α->D)(p:α->Bool):∀(xs:List α),(∀x∈xs,∃δ1,γ (g x) δ0=some δ1/\τ δ1=some (p x)/\ε δ1=some (f x))->Ym γ τ ε δ0 (xs.map g)=some ((xs.filter p).map f)
 | [],_=>rfl
 |x::xs,h=>by
  obtain⟨δ1,h1,h2,h3⟩:=h x List.mem_cons_self;have ih:=ZaD g f p xs λy hy=>h y (List.mem_cons_of_mem _ hy)
  rw [List.map_cons];unfold Ym;rw [h1];dsimp only;rw [h2];cases hp:p x with
  |false=>rw [List.filter_cons_of_neg (by simp [hp])];exact ih
  |true=>
   rw [List.filter_cons_of_pos hp,List.map_cons];dsimp only;rw [h3,ih]
theorem Qc{a b:List D}(h:a.length+b.length<=1000000):Xd (.lst a) (.lst b)=some (.lst (a++b)):=by
 show(if a.length+b.length<=PySem.sizeLine then some (D.lst (a++b))else none)=_;exact if_pos (by rw [PySem.sizeLine_eq];omega)
theorem Zb6{i:Nat}{κ ε:DL.Env->Option D}{δ:DL.Env}{xs:List D}{j:Nat}{d:D}(he:ε δ=some d)(hv:Za i δ=some (.lst xs))(hk:κ δ=some (nD j))(hj:j<xs.length):Xw i κ ε δ=some (.nx (δ.set i (some (.lst (xs.set j d))))):=by
 unfold Xw;rw [he,hv,hk];dsimp only;rw [Zea hj]
section
variable{n m:Nat}{W:List Nat}{hs:List Int}{Y:List (List Way)}
abbrev SE(W:List Nat)(hs:List Int)(Y:List (List Way))(n place:Nat)(picks:List Nat)(v4 v5 v6 v7 v8 v9 v10 v11:Option D):DL.Env:=[some (YM W hs Y),some (nD n),some (nD place),some (AD picks),v4,v5,v6,v7,v8,v9,v10,v11]
def z4:DL.Env->Option Out:=(Zl 4 (eOp ixD (Yg Xz "ways" (Za 0)) (Za 2)))
def z5t(b:Bool):DL.Env->Option Bool:=(xB (eOp (inD b) (Za 0) (Za 2)))
def z5(i:Nat)(b:Bool):DL.Env->Option Out:=(Zl i (ZC (Uy (Za 4)) (Y4 2 (ZW 0 (ZW 1 gsNil))) (z5t b) (Za 1) 2 [3]))
def z7w:DL.Env->Option D:=(eOp ixD (Yg XS "weights" (Za 1)) (eOp ixD (Za 0) (eC (.int 1))))
def z7:DL.Env->Option Out:=(Zl 7 (eOp fdivW (eCB sumLD (Zb (ZC (ZH (Za 5)) (Zm 0) (λ_=>some true) z7w 1 [0]) eNil)) (Za 1)))
noncomputable def z8:DL.Env->Option Out:=(Zl 8 (XM "many" Vk (Za 0) eNil))
def z9:DL.Env->Option Out:=(Zl 9 (eOp Xd (eCB YJ (Zb (Yg Xz "ways" (Za 0)) eNil)) (ZS (Zb (Za 6) eNil))))
def z10:DL.Env->Option Out:=(Zl 10 (eOp Xd (eCB YJ (Zb (Yg XS "weights" (Za 0)) eNil)) (ZS (Zb (eOp subD (eOp ixD (Yg XS "weights" (Za 0)) (Za 2)) (Za 7)) eNil))))
def z11:DL.Env->Option Out:=(Zl 11 (eOp Xd (eCB YJ (Zb (Yg XR "homes" (Za 0)) eNil)) (ZS (Zb (eOp ixD (Yg XR "homes" (Za 0)) (Za 2)) eNil))))
noncomputable def Zlu:DL.Env->Option D:=(ZB 3 Jk [] (Zb (Za 0) (Zb (Za 1) (Zb (Za 2) eNil))))
noncomputable def z12:DL.Env->Option Out:=(ZE (XJ "Web" 4 VU [] (Zb (Za 11) (Zb (Za 10) (Zb (ZC (ZH (Za 9)) (Zm 0) (λ_=>some true) Zlu 1 [2,8]) eNil)))))
theorem ZfP:f_QS=Zg z4 (Zg (z5 5 false) (Zg (z5 6 true) (Zg z7 (Zg z8 (Zg z9 (Zg (Xw 9 (Za 2) (Za 5)) (Zg z10 (Zg (Xw 10 (Za 2) (Za 7)) (Zg z11 z12))))))))):=rfl
def Yn(Y:List (List Way))(place:Nat)(picks:List Nat):List (Bool×List Way):=((Y.map λr=>(true,r))++[(false,Zq false picks (Y.getD place []))]).set place (false,Zq true picks (Y.getD place []))
def Yo(Y:List (List Way))(m place:Nat)(picks:List Nat):List (List Way):=(Yn Y place picks).map λq=>Zu place m q.2
theorem ZiL{place:Nat}{picks:List Nat}{r:List Way}(hr:r.length<=150)(b:Bool)(δ:DL.Env)(h4:Za 4 δ=some (rowD r))(h3:Yv 2 δ [3]=[none,none,some (AD picks)]):ZC (Uy (Za 4)) (Y4 2 (ZW 0 (ZW 1 gsNil))) (z5t b) (Za 1) 2 [3] δ=some (.lst ((Zq (!b) picks r).map wyD)):=by
 unfold Zq;rw [List.map_map];refine Yp (δ0:=[none,none,some (AD picks)]) (xs:=(enN 0 r).map enD) ?_ h3 (ZaD (τ:=z5t b) (ε:=Za 1) enD (λq=>wyD q.2) (λq=>decide (q.1∈picks) == !b) (enN 0 r) λq _=>⟨[some (nD q.1),some (wyD q.2),some (AD picks)],rfl,?_,rfl⟩) ?_
 · unfold Uy
   rw [h4];show some (XN 0 (r.map wyD))=_;rw [ZcQ]
 · cases b with
   |true=>exact ZY ((Zi (x:=nD q.1) (y:=AD picks) rfl rfl).trans ((Zg1 q.1 picks).trans (by cases decide (q.1∈picks)<;>rfl)))
   |false=>exact ZY ((Zi (x:=nD q.1) (y:=AD picks) rfl rfl).trans ((ZkQ q.1 picks).trans (by cases decide (q.1∈picks)<;>rfl)))
 · rw [List.length_map]
   have h1:=List.length_filter_le (λq:Nat×Way=>decide (q.1∈picks) == !b) (enN 0 r);rw [Zb5]at h1;omega
def shr(n:Nat)(W:List Nat)(Y:List (List Way))(place:Nat)(picks:List Nat):Nat:=ZQ W (Zq true picks (Y.getD place [])) / n
def Yc(n:Nat)(W:List Nat)(Y:List (List Way))(place:Nat)(picks:List Nat):List Nat:=(W++[W.getD place 0-shr n W Y place picks]).set place (shr n W Y place picks)
def Qd(hs:List Int)(place:Nat):List Int:=hs++[hs.getD place 0]
theorem ZfQ(h:Ok n m W hs Y){place:Nat}{picks:List Nat}(hp:place<m)(hle:shr n W Y place picks<=W.getD place 0):Qw [YM W hs Y,nD n,nD place,AD picks]=some (YM (Yc n W Y place picks) (Qd hs place) (Yo Y m place picks)):=by
 have hm5:=h.m5;have hn1:=h.n1;have hn6:=h.n6;have hrow:=(h.row hp).2;have hrl:=h.rl _ hrow;have hl1:=JD true picks (Y.getD place []);have hl2:=JD false picks (Y.getD place []);obtain⟨share,hsh,esh⟩:∃share:Int,share=((shr n W Y place picks:Nat):Int)/\fdivW (.int (((Zq true picks (Y.getD place [])).map λp=>W.getD p.2 0).sum:Nat)) (nD n)=some (.int share):=⟨_,rfl,QC hn1 (by omega)⟩
 have hhl:place<hs.length:=by rw [h.lh];exact hp
 have hh:ixD (HD hs) (nD place)=some (.int (hs.getD place 0)):=ix_tup (by
  rw [List.getElem?_map,List.getD_eq_getElem?_getD,List.getElem?_eq_getElem hhl];rfl)
 refine YF (δ:=SE W hs Y n place picks none none none none none none none none) rfl ?_;rw [ZfP];have t4:z4 (SE W hs Y n place picks none none none none none none none none)=some (.nx (SE W hs Y n place picks (some (rowD (Y.getD place []))) none none none none none none none)):=ZK ((Zi (x:=YD Y) (y:=nD place) rfl rfl).trans (Ut h hp));have t5:z5 5 false (SE W hs Y n place picks (some (rowD (Y.getD place []))) none none none none none none none)=some (.nx (SE W hs Y n place picks (some (rowD (Y.getD place []))) (some (.lst ((Zq true picks (Y.getD place [])).map wyD))) none none none none none none)):=ZK (ZiL (place:=place) hrl false _ rfl rfl)
 have t6:z5 6 true (SE W hs Y n place picks (some (rowD (Y.getD place []))) (some (.lst ((Zq true picks (Y.getD place [])).map wyD))) none none none none none none)=some (.nx (SE W hs Y n place picks (some (rowD (Y.getD place []))) (some (.lst ((Zq true picks (Y.getD place [])).map wyD))) (some (.lst ((Zq false picks (Y.getD place [])).map wyD))) none none none none none)):=ZK (ZiL (place:=place) hrl true _ rfl rfl)
 have t7:z7 (SE W hs Y n place picks (some (rowD (Y.getD place []))) (some (.lst ((Zq true picks (Y.getD place [])).map wyD))) (some (.lst ((Zq false picks (Y.getD place [])).map wyD))) none none none none none)=some (.nx (SE W hs Y n place picks (some (rowD (Y.getD place []))) (some (.lst ((Zq true picks (Y.getD place [])).map wyD))) (some (.lst ((Zq false picks (Y.getD place [])).map wyD))) (some (.int share)) none none none none)):=by
  refine ZK ((Zi (y:=nD n) ((ZF (Zf (Yp (δ0:=[none,some (YM W hs Y)]) (xs:=(Zq true picks (Y.getD place [])).map wyD) (ys:=((Zq true picks (Y.getD place [])).map λp=>W.getD p.2 0).map nD) rfl rfl ?_ ?_) nil_of)).trans (Jy _)) rfl).trans esh)
  · rw [List.map_map]
    exact YL (ε:=z7w) wyD _ (Zq true picks (Y.getD place [])) λp hq=>⟨[some (wyD p),some (YM W hs Y)],rfl,(Zi (x:=WD W) (y:=nD p.2) rfl ((Zi (x:=wyD p) (y:=.int 1) rfl rfl).trans (V5 p))).trans (X8 h (h.tg _ hrow p (Qb hq)))⟩
  · rw [List.length_map,List.length_map]
    omega
 have t8:z8 (SE W hs Y n place picks (some (rowD (Y.getD place []))) (some (.lst ((Zq true picks (Y.getD place [])).map wyD))) (some (.lst ((Zq false picks (Y.getD place [])).map wyD))) (some (.int share)) none none none none)=some (.nx (SE W hs Y n place picks (some (rowD (Y.getD place []))) (some (.lst ((Zq true picks (Y.getD place [])).map wyD))) (some (.lst ((Zq false picks (Y.getD place [])).map wyD))) (some (.int share)) (some (nD m)) none none none)):=ZK ((ZaB rfl).trans (Zb2 h))
 have t9:z9 (SE W hs Y n place picks (some (rowD (Y.getD place []))) (some (.lst ((Zq true picks (Y.getD place [])).map wyD))) (some (.lst ((Zq false picks (Y.getD place [])).map wyD))) (some (.int share)) (some (nD m)) none none none)=some (.nx (SE W hs Y n place picks (some (rowD (Y.getD place []))) (some (.lst ((Zq true picks (Y.getD place [])).map wyD))) (some (.lst ((Zq false picks (Y.getD place [])).map wyD))) (some (.int share)) (some (nD m)) (some (.lst (Y.map rowD++[D.lst ((Zq false picks (Y.getD place [])).map wyD)]))) none none)):=
  ZK ((Zi (x:=.lst (Y.map rowD)) (y:=.lst [D.lst ((Zq false picks (Y.getD place [])).map wyD)]) ((ZF (Zf (x:=YD Y) rfl nil_of)).trans rfl) (Xq (ds:=[D.lst ((Zq false picks (Y.getD place [])).map wyD)]) (Zf rfl nil_of) (by show 1<=1000;decide))).trans (Qc (by rw [List.length_map,h.ly];show m+1<=1000000;omega)))
 have t9b:Xw 9 (Za 2) (Za 5) (SE W hs Y n place picks (some (rowD (Y.getD place []))) (some (.lst ((Zq true picks (Y.getD place [])).map wyD))) (some (.lst ((Zq false picks (Y.getD place [])).map wyD))) (some (.int share)) (some (nD m)) (some (.lst (Y.map rowD++[D.lst ((Zq false picks (Y.getD place [])).map wyD)]))) none none)=some (.nx (SE W hs Y n place picks (some (rowD (Y.getD place []))) (some (.lst ((Zq true picks (Y.getD place [])).map wyD))) (some (.lst ((Zq false picks (Y.getD place [])).map wyD))) (some (.int share)) (some (nD m)) (some (.lst ((Yn Y place picks).map kd))) none none)):=by
  refine(Zb6 (j:=place) (d:=.lst ((Zq true picks (Y.getD place [])).map wyD)) rfl rfl rfl (by rw [List.length_append,List.length_map,h.ly];omega)).trans ?_
  have em:(Y.map rowD++[D.lst ((Zq false picks (Y.getD place [])).map wyD)]).set place (.lst ((Zq true picks (Y.getD place [])).map wyD))=(Yn Y place picks).map kd:=by
   unfold Yn;rw [List.map_set,List.map_append,List.map_map];rfl
  rw [em];rfl
 have t10:z10 (SE W hs Y n place picks (some (rowD (Y.getD place []))) (some (.lst ((Zq true picks (Y.getD place [])).map wyD))) (some (.lst ((Zq false picks (Y.getD place [])).map wyD))) (some (.int share)) (some (nD m)) (some (.lst ((Yn Y place picks).map kd))) none none)=some (.nx (SE W hs Y n place picks (some (rowD (Y.getD place []))) (some (.lst ((Zq true picks (Y.getD place [])).map wyD))) (some (.lst ((Zq false picks (Y.getD place [])).map wyD))) (some (.int share)) (some (nD m)) (some (.lst ((Yn Y place picks).map kd))) (some (.lst (W.map nD++[D.int (((W.getD place 0:Nat):Int)-share)]))) none)):=
  ZK ((Zi (x:=.lst (W.map nD)) (y:=.lst [D.int (((W.getD place 0:Nat):Int)-share)]) ((ZF (Zf (x:=WD W) rfl nil_of)).trans rfl) (Xq (ds:=[D.int (((W.getD place 0:Nat):Int)-share)]) (Zf ((Zi (x:=nD (W.getD place 0)) (y:=.int share) ((Zi (x:=WD W) (y:=nD place) rfl rfl).trans (X8 h hp)) rfl).trans rfl) nil_of) (by show 1<=1000;decide))).trans (Qc (by rw [List.length_map,h.lw];show m+1<=1000000;omega)))
 have t10b:Xw 10 (Za 2) (Za 7) (SE W hs Y n place picks (some (rowD (Y.getD place []))) (some (.lst ((Zq true picks (Y.getD place [])).map wyD))) (some (.lst ((Zq false picks (Y.getD place [])).map wyD))) (some (.int share)) (some (nD m)) (some (.lst ((Yn Y place picks).map kd))) (some (.lst (W.map nD++[D.int (((W.getD place 0:Nat):Int)-share)]))) none)=some (.nx (SE W hs Y n place picks (some (rowD (Y.getD place []))) (some (.lst ((Zq true picks (Y.getD place [])).map wyD))) (some (.lst ((Zq false picks (Y.getD place [])).map wyD))) (some (.int share)) (some (nD m)) (some (.lst ((Yn Y place picks).map kd))) (some (.lst ((W.map nD++[D.int (((W.getD place 0:Nat):Int)-share)]).set place (.int share)))) none)):=
  Zb6 (j:=place) (d:=.int share) rfl rfl rfl (by rw [List.length_append,List.length_map,h.lw];omega)
 have t11:z11 (SE W hs Y n place picks (some (rowD (Y.getD place []))) (some (.lst ((Zq true picks (Y.getD place [])).map wyD))) (some (.lst ((Zq false picks (Y.getD place [])).map wyD))) (some (.int share)) (some (nD m)) (some (.lst ((Yn Y place picks).map kd))) (some (.lst ((W.map nD++[D.int (((W.getD place 0:Nat):Int)-share)]).set place (.int share)))) none)=some (.nx (SE W hs Y n place picks (some (rowD (Y.getD place []))) (some (.lst ((Zq true picks (Y.getD place [])).map wyD))) (some (.lst ((Zq false picks (Y.getD place [])).map wyD))) (some (.int share)) (some (nD m)) (some (.lst ((Yn Y place picks).map kd))) (some (.lst ((W.map nD++[D.int (((W.getD place 0:Nat):Int)-share)]).set place (.int share)))) (some (.lst ((hs++[hs.getD place 0]).map D.int))))):=by
  refine ZK ((Zi (x:=.lst (hs.map D.int)) (y:=.lst [D.int (hs.getD place 0)]) ((ZF (Zf (x:=HD hs) rfl nil_of)).trans rfl) (Xq (ds:=[D.int (hs.getD place 0)]) (Zf ((Zi (x:=HD hs) (y:=nD place) rfl rfl).trans hh) nil_of) (by show 1<=1000;decide))).trans ((Qc (by rw [List.length_map,h.lh];show m+1<=1000000;omega)).trans ?_));rw [List.map_append];rfl
 have hkl:∀q∈Yn Y place picks,q.2.length<=300:=λq hq=>by
  unfold Yn at hq;rcases List.mem_or_eq_of_mem_set hq with z|z
  · rcases List.mem_append.mp z with z|z
    · obtain⟨r,hr,rfl⟩:=List.mem_map.mp z
      exact Nat.le_trans (h.rl r hr) (by decide)
    · rw [List.mem_singleton.mp z]
      show(Zq false picks (Y.getD place [])).length<=300;omega
  · rw [z]
    show(Zq true picks (Y.getD place [])).length<=300;omega
 have hkn:(Yn Y place picks).length=m+1:=by
  unfold Yn;rw [List.length_set,List.length_append,List.length_map,h.ly];rfl
 refine(Zn t4).trans ((Zn t5).trans ((Zn t6).trans ((Zn t7).trans ((Zn t8).trans ((Zn t9).trans ((Zn t9b).trans ((Zn t10).trans ((Zn t10b).trans ((Zn t11).trans (Ys ?_))))))))));refine(Jh (ds:=[.lst ((hs++[hs.getD place 0]).map D.int),.lst ((W.map nD++[D.int (((W.getD place 0:Nat):Int)-share)]).set place (.int share)),.lst ((Yn Y place picks).map (dD place m))]) (Zf rfl (Zf rfl (Zf (Yp (δ0:=[none,some (nD place),some (nD m)]) (xs:=(Yn Y place picks).map kd) rfl rfl (YL (ε:=Zlu) kd (dD place m) (Yn Y place picks) λq hq=>⟨[some (kd q),some (nD place),some (nD m)],rfl,(Yh (n:=3) (Zf rfl (Zf rfl (Zf rfl nil_of))) rfl).trans (Zdk (hkl q hq))⟩) (by rw [List.length_map,hkn];omega)) nil_of))) rfl).trans ?_
 refine(ZjD (Y:=Yo Y m place picks) ?_ (by unfold Yo;rw [List.length_map,hkn];omega)).trans ?_
 case refine_2=>
  have ew:(W.map nD++[D.int (((W.getD place 0:Nat):Int)-share)]).set place (.int share)=(Yc n W Y place picks).map nD:=by
   subst hsh;unfold Yc;rw [List.map_set,List.map_append,show(((W.getD place 0:Nat):Int)-(shr n W Y place picks:Nat))=((W.getD place 0-shr n W Y place picks:Nat):Int) by omega];rfl
  rw [ew];rfl
 unfold Yo;rw [List.map_map];exact YL (ε:=kE) (dD place m) (λq=>rowD (Zu place m q.2)) (Yn Y place picks) λq hq=>⟨[some (dD place m q)],rfl,(Yh (n:=1) (Zf rfl nil_of) rfl).trans (ZjC (hkl q hq))⟩
end
end K37
namespace K37
open DL L2
section
variable{n m:Nat}{W:List Nat}{hs:List Int}{Y:List (List Way)}
theorem mem_dblR{place new:Nat}{r:List Way}{p:Way}:p∈Zu place new r ↔ p∈r\/∃q∈r,q.2=place/\p=(q.1,new):=by
 unfold Zu;rw [List.mem_flatMap];constructor
 · rintro⟨q,hq,hp⟩
   unfold dbl at hp
   by_cases z:q.2=place
   · rw [if_pos z]at hp
     rcases List.mem_cons.mp hp with w|w
     · exact .inl (w▸hq)
     · exact .inr ⟨q,hq,z,List.mem_singleton.mp w⟩
   · rw [if_neg z]at hp
     exact .inl (List.mem_singleton.mp hp▸hq)
 · rintro(hp|⟨q,hq,z,rfl⟩)
   · refine⟨p,hp,?_⟩
     unfold dbl
     by_cases z:p.2=place
     · rw [if_pos z];exact List.mem_cons_self
     · rw [if_neg z];exact List.mem_singleton.mpr rfl
   · refine⟨q,hq,?_⟩
     unfold dbl;rw [if_pos z];exact List.mem_cons_of_mem _ (List.mem_singleton.mpr rfl)
theorem ZcR{place new:Nat}{r s:List Way}(h:∀p∈r,p∈s){p:Way}(hp:p∈Zu place new r):p∈Zu place new s:=by
 rcases mem_dblR.mp hp with z|⟨q,hq,z⟩
 · exact mem_dblR.mpr (.inl (h p z))
 · exact mem_dblR.mpr (.inr ⟨q,h q hq,z⟩)
variable{place:Nat}{picks:List Nat}
theorem ZgG(h:Ok n m W hs Y):(Yo Y m place picks).length=m+1:=by
 unfold Yo Yn;rw [List.length_map,List.length_set,List.length_append,List.length_map,h.ly];rfl
theorem Zba(h:Ok n m W hs Y)(hp:place<m):(Yo Y m place picks).getD place []=Zu place m (Zq true picks (Y.getD place [])):=by
 unfold Yo Yn;rw [List.getD_eq_getElem?_getD,List.getElem?_map,List.getElem?_set_self (by rw [List.length_append,List.length_map,h.ly];omega)];rfl
theorem ZdC(h:Ok n m W hs Y)(hp:place<m):(Yo Y m place picks).getD m []=Zu place m (Zq false picks (Y.getD place [])):=by
 unfold Yo Yn;have hly:=h.ly;rw [List.getD_eq_getElem?_getD,List.getElem?_map,List.getElem?_set_ne (by omega),List.getElem?_append_right (by rw [List.length_map];omega),List.length_map,hly,Nat.sub_self];rfl
theorem Zg3(h:Ok n m W hs Y){x:Nat}(hx:x<m)(hn:x≠place):(Yo Y m place picks).getD x []=Zu place m (Y.getD x []):=by
 unfold Yo Yn;have hly:=h.ly;rw [List.getD_eq_getElem?_getD,List.getElem?_map,List.getElem?_set_ne (λz=>hn z.symm),List.getElem?_append_left (by rw [List.length_map];omega),List.getElem?_map,(h.row hx).1];rfl
theorem ZjE(h:Ok n m W hs Y)(hp:place<m){x:Nat}(hx:x<m+1){p:Way}(hq:p∈(Yo Y m place picks).getD x []):∃y<m,(y=x\/(x=m/\y=place))/\p∈Zu place m (Y.getD y []):=by
 by_cases e1:x=place
 · subst e1
   rw [Zba h hp]at hq;exact⟨x,hp,.inl rfl,ZcR (λp=>Qb) hq⟩
 · by_cases e2:x=m
   · subst e2
     rw [ZdC h hp]at hq;exact⟨place,hp,.inr ⟨rfl,rfl⟩,ZcR (λp=>Qb) hq⟩
   · have hx2:x<m:=by omega
     rw [Zg3 h hx2 e1]at hq;exact⟨x,hx2,.inl rfl,hq⟩
theorem ZkZ(h:Ok n m W hs Y)(hp:place<m):∀r∈Yo Y m place picks,∀p∈r,p.2<m+1:=λr hr p hq=>by
 obtain⟨i,hi,e⟩:=List.getElem_of_mem hr
 have e2:(Yo Y m place picks).getD i []=r:=by
  rw [List.getD_eq_getElem?_getD,List.getElem?_eq_getElem hi,e];rfl
 rw [ZgG h]at hi;rw [<-e2]at hq;obtain⟨y,hy,_,hz⟩:=ZjE h hp hi hq;rcases mem_dblR.mp hz with z|⟨q,_,_,rfl⟩
 · have:=h.tg _ (h.row hy).2 p z
   omega
 · exact Nat.lt_succ_self m
end
end K37
namespace K37
open DL L2
section
variable{n m:Nat}{W:List Nat}{hs:List Int}{Y:List (List Way)}{place:Nat}{picks:List Nat}
theorem JE:∀(s:Nat)(r:List Way),enN s r=(List.range r.length).map λk=>(s+k,r.getD k ([],0))
 |s,[]=>rfl
 |s,p::r=>by
  rw [List.length_cons,List.range_succ_eq_map,List.map_cons,List.map_map];show(s,p)::enN (s+1) r=_;rw [JE (s+1) r]
  congr 1
  apply List.map_congr_left;intro k _;show(s+1+k,r.getD k ([],0))=(s+(k+1),(p::r).getD (k+1) ([],0))
  rw [Nat.add_assoc,Nat.add_comm 1 k];rfl
theorem Zb7:∀(k:Nat)(r:List Way),(enN k r).map Prod.snd=r
 |_,[]=>rfl
 |k,p::r=>by
  show p::(enN (k+1) r).map Prod.snd=_;rw [Zb7]
theorem JF(b:Bool)(picks:List Nat)(r:List Way):(Zq b picks r).Sublist r:=by
 have:=(List.filter_sublist (p:=λq:Nat×Way=>decide (q.1∈picks) == b) (l:=enN 0 r)).map Prod.snd
 rwa [Zb7]at this
theorem ZcS{α:Type}(f:α->Nat)(p:α->Bool):∀l:List α,((l.filter λq=>p q == true).map f).sum+((l.filter λq=>p q == false).map f).sum=(l.map f).sum
 | []=>rfl
 |a::l=>by
  have ih:=ZcS f p l;rw [List.map_cons,List.sum_cons];cases hp:p a with
  |true=>
   rw [List.filter_cons_of_pos (by simp [hp]),List.filter_cons_of_neg (by simp [hp]),List.map_cons,List.sum_cons];omega
  |false=>
   rw [List.filter_cons_of_neg (by simp [hp]),List.filter_cons_of_pos (by simp [hp]),List.map_cons,List.sum_cons];omega
theorem ZeV(W picks:List Nat)(r:List Way):ZQ W (Zq true picks r)+ZQ W (Zq false picks r)=ZQ W r:=by
 unfold ZQ Zq;rw [List.map_map,List.map_map];have:=ZcS (λq:Nat×Way=>W.getD q.2.2 0) (λq=>decide (q.1∈picks)) (enN 0 r)
 have e:(enN 0 r).map (λq:Nat×Way=>W.getD q.2.2 0)=r.map λp=>W.getD p.2 0:=by
  conv=>rhs;rw [<-Zb7 0 r,List.map_map]
  rfl
 rw [e]at this;exact this
theorem Zdl{r:List Way}(hi:picks.Pairwise (· < ·))(hl:∀k∈picks,k<r.length):ZQ W (Zq true picks r)=(picks.map (wOf W r)).sum:=by
 unfold ZQ Zq;rw [List.map_map,JE,List.filter_map,List.map_map]
 have e:(List.range r.length).filter ((λq:Nat×Way=>decide (q.1∈picks) == true)∘λk=>(0+k,r.getD k ([],0)))=picks:=by
  refine ZdB (List.Pairwise.filter _ List.pairwise_lt_range) hi λt => ?_
  rw [List.mem_filter,List.mem_range];show _/\(decide (0+t∈picks) == true)=true ↔ _;rw [Nat.zero_add];exact⟨λz=>by simpa using z.2,λz=>⟨hl t z,by simpa using z⟩⟩
 rw [e];rfl
theorem ZfR(W:List Nat)(a b:List Way):ZQ W (a++b)=ZQ W a+ZQ W b:=by
 unfold ZQ;rw [List.map_append,List.sum_append]
theorem ZfS{a b:List Way}(h:a.Sublist b):ZQ W a<=ZQ W b:=by
 unfold ZQ
 induction h with
 |slnil=>exact Nat.le_refl _
 |cons p _ ih=>rw [List.map_cons,List.sum_cons];omega
 |cons_cons p _ ih=>rw [List.map_cons,List.map_cons,List.sum_cons,List.sum_cons];omega
theorem Zg4{M:Nat}(G:Good n M W (Y.getD place []) picks):n*shr n W Y place picks=ZQ W (Zq true picks (Y.getD place []))/\1<=shr n W Y place picks/\shr n W Y place picks<M:=by
 have e:=Zdl (W:=W) G.inc G.lt;have h0:=G.even;have h1:=G.pos;have h2:=G.less;rw [<-e]at h0 h1 h2;have h3:n*shr n W Y place picks=ZQ W (Zq true picks (Y.getD place [])):=Nat.mul_div_cancel' (Nat.dvd_of_mod_eq_zero h0);refine⟨h3,Nat.pos_of_ne_zero λz => ?_,?_⟩
 · rw [z,Nat.mul_zero]at h3
   omega
 · rw [<-h3]at h2
   exact Nat.lt_of_mul_lt_mul_left h2
theorem ZjF(h:Ok n m W hs Y):(Yc n W Y place picks).length=m+1:=by
 unfold Yc;rw [List.length_set,List.length_append,h.lw];rfl
theorem ZcT(h:Ok n m W hs Y)(hp:place<m):(Yc n W Y place picks).getD place 0=shr n W Y place picks:=by
 unfold Yc;rw [List.getD_eq_getElem?_getD,List.getElem?_set_self (by rw [List.length_append,h.lw];omega)];rfl
theorem ZgH(h:Ok n m W hs Y)(hp:place<m):(Yc n W Y place picks).getD m 0=W.getD place 0-shr n W Y place picks:=by
 unfold Yc;have hlw:=h.lw;rw [List.getD_eq_getElem?_getD,List.getElem?_set_ne (by omega),List.getElem?_append_right (by omega),hlw,Nat.sub_self];rfl
theorem ZiM(h:Ok n m W hs Y){x:Nat}(hx:x<m)(hn:x≠place):(Yc n W Y place picks).getD x 0=W.getD x 0:=by
 unfold Yc;have hlw:=h.lw;rw [List.getD_eq_getElem?_getD,List.getElem?_set_ne (λz=>hn z.symm),List.getElem?_append_left (by omega),<-List.getD_eq_getElem?_getD]
theorem Zeg:∀(l:List Nat)(i a:Nat),i<l.length->(l.set i a).sum+l.getD i 0=l.sum+a
 |b::l,0,a,_=>by
  show(a::l).sum+b=(b::l).sum+a;rw [List.sum_cons,List.sum_cons];omega
 |b::l,i+1,a,h=>by
  have ih:=Zeg l i a (by simpa using h);show(b::l.set i a).sum+l.getD i 0=(b::l).sum+a;rw [List.sum_cons,List.sum_cons];omega
theorem ZgI(h:Ok n m W hs Y)(hp:place<m)(hle:shr n W Y place picks<=W.getD place 0):(Yc n W Y place picks).sum=W.sum:=by
 have hlw:=h.lw;have:=Zeg (W++[W.getD place 0-shr n W Y place picks]) place (shr n W Y place picks) (by rw [List.length_append];omega)
 have e:(W++[W.getD place 0-shr n W Y place picks]).getD place 0=W.getD place 0:=by
  rw [List.getD_eq_getElem?_getD,List.getElem?_append_left (by omega),<-List.getD_eq_getElem?_getD]
 rw [e,List.sum_append,List.sum_singleton]at this;unfold Yc;omega
theorem QF(h:Ok n m W hs Y)(hp:place<m)(hle:shr n W Y place picks<=W.getD place 0):∀{r:List Way},(∀p∈r,p.2<m)->ZQ (Yc n W Y place picks) (Zu place m r)=ZQ W r
 | [],_=>rfl
 |p::r,hr=>by
  have ih:=QF h hp hle (r:=r) λq hq=>hr q (List.mem_cons_of_mem _ hq)
  have e:Zu place m (p::r)=dbl place m p++Zu place m r:=by
   unfold Zu;rw [List.flatMap_cons]
  rw [e,ZfR,ih,show ZQ W (p::r)=W.getD p.2 0+ZQ W r by unfold ZQ;rw [List.map_cons,List.sum_cons]]
  congr 1
  unfold dbl
  by_cases z:p.2=place
  · rw [if_pos z,z]
    show(Yc n W Y place picks).getD p.2 0+((Yc n W Y place picks).getD m 0+0)=_;rw [z,ZcT h hp,ZgH h hp];omega
  · rw [if_neg z]
    show(Yc n W Y place picks).getD p.2 0+0=_;rw [ZiM h (hr p List.mem_cons_self) z,Nat.add_zero]
theorem ZbD:∀{r:List Way},(∀p∈r,p.2<m)->r.Nodup->(Zu place m r).Nodup
 | [],_,_=>List.nodup_nil
 |p::r,hr,hn=>by
  rw [List.nodup_cons]at hn;have ih:=ZbD (r:=r) (λq hq=>hr q (List.mem_cons_of_mem _ hq)) hn.2;have hp:=hr p List.mem_cons_self
  have e:Zu place m (p::r)=dbl place m p++Zu place m r:=by
   unfold Zu;rw [List.flatMap_cons]
  have far:∀x,x∈dbl place m p->x=p\/(p.2=place/\x=(p.1,m)):=λx hx=>by
   unfold dbl at hx
   by_cases z:p.2=place
   · rw [if_pos z]at hx
     rcases List.mem_cons.mp hx with w|w
     · exact .inl w
     · exact .inr ⟨z,List.mem_singleton.mp w⟩
   · rw [if_neg z]at hx
     exact .inl (List.mem_singleton.mp hx)
  rw [e,List.nodup_append];refine⟨?_,ih,λx hx y hy exy => ?_⟩
  · unfold dbl
    by_cases z:p.2=place
    · rw [if_pos z,List.nodup_cons]
      refine⟨λw => ?_,by simp⟩;have:=congrArg Prod.snd (List.mem_singleton.mp w);have:p.2=m:=this;omega
    · rw [if_neg z];simp
  · subst exy
    rcases far x hx with rfl|⟨z,rfl⟩
    · rcases mem_dblR.mp hy with w|⟨q,hq,_,w⟩
      · exact hn.1 w
      · rw [w]at hp
        exact Nat.lt_irrefl _ hp
    · rcases mem_dblR.mp hy with w|⟨q,hq,w1,w2⟩
      · have:=hr _ (List.mem_cons_of_mem _ w)
        exact Nat.lt_irrefl _ this
      · have e1:p.1=q.1:=(Prod.mk.inj w2).1
        have:p=q:=Prod.ext e1 (z.trans w1.symm);exact hn.1 (this▸hq)
theorem JG(h:Ok n m W hs Y)(hp:place<m):∀r∈Yo Y m place picks,∃r0 y,y∈Y/\r0.Sublist y/\r=Zu place m r0:=λr hr=>by
 obtain⟨q,hq,rfl⟩:=List.mem_map.mp hr;have hy:=(h.row hp).2;unfold Yn at hq;rcases List.mem_or_eq_of_mem_set hq with z|z
 · rcases List.mem_append.mp z with z|z
   · obtain⟨y,hy,rfl⟩:=List.mem_map.mp z
     exact⟨y,y,hy,List.Sublist.refl _,rfl⟩
   · rw [List.mem_singleton.mp z]
     exact⟨_,_,hy,JF _ _ _,rfl⟩
 · rw [z]
   exact⟨_,_,hy,JF _ _ _,rfl⟩
theorem ZfT(h:Ok n m W hs Y)(hp:place<m)(h1:∃p,p∈Zq true picks (Y.getD place []))(h2:∃p,p∈Zq false picks (Y.getD place []))(S:Nat->Prop)(hc:∀k<m+1,S k->∀p∈(Yo Y m place picks).getD k [],S p.2)(a:Nat)(ha:a<m+1)(h0:S a)(b:Nat)(hb:b<m+1):S b:=by
 let F:Nat->Prop:=λx=>S x/\(x=place->S m)
 have dp:∀{r:List Way}{p:Way},p∈r->(∀q∈Zu place m r,S q.2)->F p.2:=λ{r p} hq hS=>⟨hS p (mem_dblR.mpr (.inl hq)),λe=>hS (p.1,m) (mem_dblR.mpr (.inr ⟨p,hq,e,rfl⟩))⟩
 have rp:S place->∀q∈Zu place m (Zq true picks (Y.getD place [])),S q.2:=λz q hq=>hc place (by omega) z q (by rw [Zba h hp];exact hq)
 have rn:S m->∀q∈Zu place m (Zq false picks (Y.getD place [])),S q.2:=λz q hq=>hc m (by omega) z q (by rw [ZdC h hp];exact hq)
 have closed:∀k<m,F k->∀p∈Y.getD k [],F p.2:=λk hk hF p hq=>by
  by_cases e:k=place
  · subst e
    rcases ZeU (picks:=picks) hq with z|z
    · exact dp z (rp hF.1)
    · exact dp z (rn (hF.2 rfl))
  · exact dp hq λq hz=>hc k (by omega) hF.1 q (by rw [Zg3 h hk e];exact hz)
 have start:∃x<m,F x:=by
  by_cases e:a=place
  · obtain⟨p,hq⟩:=h1
    exact⟨p.2,h.tg _ (h.row hp).2 p (Qb hq),dp hq (rp (e▸h0))⟩
  · by_cases e2:a=m
    · obtain⟨p,hq⟩:=h2
      exact⟨p.2,h.tg _ (h.row hp).2 p (Qb hq),dp hq (rn (e2▸h0))⟩
    · exact⟨a,by omega,h0,λz=>absurd z e⟩
 obtain⟨x,hx,hF⟩:=start;have all:=h.st F closed x hx hF
 by_cases e:b=m
 · rw [e];exact(all place hp).2 rfl
 · exact(all b (by omega)).1
theorem ZfU(h:Ok n m W hs Y)(hp:place<m){M:Nat}(hM:W.getD place 0=M)(G:Good n M W (Y.getD place []) picks):Ok n (m+1) (Yc n W Y place picks) (Qd hs place) (Yo Y m place picks):=by
 obtain⟨s1,s2,s3⟩:=Zg4 G;have hle:shr n W Y place picks<=W.getD place 0:=by omega
 have hrow:=(h.row hp).2;have hn1:=h.n1;have hw:=h.w1 _ (h.wt hp).2;have bp:=ZeV W picks (Y.getD place []);have hbr:n*W.getD place 0<=ZQ W (Y.getD place []):=h.br place hp;have htg:=h.tg;have subTg:∀{r0 y:List Way},y∈Y->r0.Sublist y->∀p∈r0,p.2<m:=λhy hs p hq=>htg _ hy p (hs.subset hq)
 have hrest:n*(W.getD place 0-shr n W Y place picks)<=ZQ W (Zq false picks (Y.getD place [])):=by
  rw [Nat.mul_sub];omega
 have hpos:1<=n*(W.getD place 0-shr n W Y place picks):=Nat.mul_pos hn1 (by omega)
 have QG:∀{r:List Way},1<=ZQ W r->∃p,p∈r:=λ{r} z=>by
  cases r with
  |nil=>exact absurd (show 1<=0 from z) (by decide)
  |cons p r=>exact⟨p,List.mem_cons_self⟩
 have hpos2:1<=n*shr n W Y place picks:=Nat.mul_pos hn1 s2;refine⟨by omega,hn1,h.n6,ZjF h,?_,ZgG h,λw hq => ?_,?_,λr hr => ?_,ZkZ h hp,λr hr p hq => ?_,λr hr => ?_,ZfT h hp (QG (by omega)) (QG (by omega)),λk hk => ?_⟩
 · unfold Qd
   rw [List.length_append,h.lh];rfl
 · unfold Yc at hq
   rcases List.mem_or_eq_of_mem_set hq with z|z
   · rcases List.mem_append.mp z with z|z
     · exact h.w1 w z
     · rw [List.mem_singleton.mp z]
       omega
   · omega
 · rw [ZgI h hp hle];exact h.sw
 · obtain⟨r0,y,hy,hs,rfl⟩:=JG h hp r hr
   have e:ZQ (Yc n W Y place picks) (Zu place m r0)=ZQ W r0:=QF h hp hle (subTg hy hs);have h3:=ZfS (W:=W) hs;have h4:ZQ W y<=150:=h.rs y hy;show ZQ (Yc n W Y place picks) (Zu place m r0)<=150;omega
 · obtain⟨r0,y,hy,hs,rfl⟩:=JG h hp r hr
   rcases mem_dblR.mp hq with z|⟨q,hz,_,rfl⟩
   · exact h.cd y hy p (hs.subset z)
   · exact h.cd y hy q (hs.subset hz)
 · obtain⟨r0,y,hy,hs,rfl⟩:=JG h hp r hr
   exact ZbD (subTg hy hs) ((h.nd y hy).sublist hs)
 · show n*_<=ZQ (Yc n W Y place picks) _
   by_cases e:k=place
   · subst e
     rw [ZcT h hp,Zba h hp,QF h hp hle (subTg hrow (JF _ _ _)),s1];exact Nat.le_refl _
   · by_cases e2:k=m
     · subst e2
       rw [ZgH h hp,ZdC h hp,QF h hp hle (subTg hrow (JF _ _ _))];exact hrest
     · have hk2:k<m:=by omega
       rw [ZiM h hk2 e,Zg3 h hk2 e,QF h hp hle (htg _ (h.row hk2).2)];exact h.br k hk2
end
end K37
namespace K37
open DL L2
abbrev Wb:=List Nat×List Int×List (List Way)
def wb(A:Wb):D:=YM A.1 A.2.1 A.2.2
section
variable{n m:Nat}{W:List Nat}{hs:List Int}{Y:List (List Way)}
theorem ZcU(x:D):∀k:Nat,(List.replicate k [x]).flatten=List.replicate k x
 |0=>rfl
 |k+1=>by
  rw [List.replicate_succ,List.flatten_cons,ZcU x k,List.replicate_succ];rfl
abbrev JH(m:Nat):List Nat:=List.replicate m 1
theorem ZeW(h:Ok n m W hs Y):Jl [YM W hs Y]=some (YM (JH m) hs Y):=by
 have hm5:=h.m5;refine YF (δ:=[some (YM W hs Y)]) rfl (Ys ?_)
 have e1:eOp Q8 (ZS (Zb (eC (.int 1)) eNil)) (XM "many" Vk (Za 0) eNil) [some (YM W hs Y)]=some (.lst ((JH m).map nD)):=by
  refine(Zi (x:=.lst [.int 1]) (y:=nD m) (Xq (ds:=[.int 1]) rfl (by show 1<=1000;decide)) ((ZaB rfl).trans (Zb2 h))).trans ?_;refine(ZhM (a:=[.int 1]) (n:=m) (by show 1*m<=100000;omega) (by omega)).trans ?_;rw [ZcU,List.map_replicate];rfl
 refine(Jh (ds:=[HD hs,.lst ((JH m).map nD),YD Y]) (Zf rfl (Zf e1 (Zf rfl nil_of))) rfl).trans ?_;exact Za8 rowD (λr hr=>Jx r (Nat.le_trans (h.rl r hr) (by decide))) _ _ _ rfl rfl (λ_=>rfl) (by rw [h.ly];omega)
end
end K37
namespace K37
open DL L2
theorem Zh5{l:List Nat}(hl:0<l.length):∃M,minQD [AD l]=some (nD M)/\M∈l/\∀w∈l,M<=w:=by
 have hz:0<(l.map λa=>((a:Nat):Int)).length:=by rw [List.length_map];exact hl
 obtain⟨h1,h2⟩:=Zax hz;obtain⟨M,hM,e⟩:=List.mem_map.mp h1;refine⟨M,?_,hM,λw hw => ?_⟩
 · show minLD [.lst (l.map nD)]=_
   unfold minLD;dsimp only;rw [UF];dsimp only;rw [if_pos hz,<-e]
 · have:=h2 _ (List.mem_map.mpr ⟨w,hw,rfl⟩)
   rw [<-e]at this;omega
theorem ZeX(place new:Nat)(r:List Way)(p:Way):Zu place new (r++[p])=Zu place new r++dbl place new p:=by
 unfold Zu;rw [List.flatMap_append];simp
end K37
namespace K37
open DL L2
section
variable{n m M place:Nat}{W:List Nat}{hs:List Int}{Y:List (List Way)}{picks:List Nat}
theorem Zk0{l:List Int}(h:1<=l.length)(hl:l.length<=1000)(x:Int):catT (HD l) (.tup [.int x])=some (HD (l++[x])):=by
 cases l with
 |nil=>exact absurd h (by decide)
 |cons a l=>
  show(if(D.int a::l.map D.int).length+[D.int x].length<=PySem.sizeLine then some (D.tup ((D.int a::l.map D.int)++[D.int x]))else none)=_;rw [if_pos (by rw [PySem.sizeLine_eq,List.length_cons,List.length_map];rw [List.length_cons]at hl;show l.length+1+1<=_;omega)];show _=some (D.tup ((a::l++[x]).map D.int));rw [List.map_append];rfl
end
end K37
namespace K37
open DL L2
theorem JI{α:Type}{γ:D->DL.Env->Option DL.Env}{φ:DL.Env->Option Out}(g:α->D)(I:List α->DL.Env->Prop)(R:D->Prop)(all:List α)(step:∀(dn:List α)(x:α)(r:List α)(δ:DL.Env),dn++x::r=all->I dn δ->∃δ1,γ (g x) δ=some δ1/\((∃δ2,φ δ1=some (.nx δ2)/\I (dn++[x]) δ2)\/∃d,φ δ1=some (.rt d)/\R d)):∀(rest dn:List α)(δ:DL.Env),dn++rest=all->I dn δ->(∃δ',ZV γ φ (rest.map g) δ=some (.nx δ')/\I all δ')\/∃d,ZV γ φ (rest.map g) δ=some (.rt d)/\R d
 | [],dn,δ,e,h => .inl ⟨δ,rfl,by rw [<-e,List.append_nil];exact h⟩
 |x::rest,dn,δ,e,h=>by
  obtain⟨δ1,h1,⟨δ2,h2,h3⟩|⟨d,h2,h3⟩⟩:=step dn x rest δ e h
  · have ih:=JI g I R all step rest (dn++[x]) δ2 (by rw [List.append_assoc];exact e) h3
    have e1:ZV γ φ ((x::rest).map g) δ=ZV γ φ (rest.map g) δ2:=by
     rw [List.map_cons]
     conv=>lhs;unfold ZV
     rw [h1];dsimp only;rw [h2]
    rw [e1];exact ih
  · refine .inr ⟨d,?_,h3⟩
    rw [List.map_cons];unfold ZV;rw [h1];dsimp only;rw [h2]
def seg{α:Type}(l:List α)(a b:Nat):List α:=(l.drop a).take (b-a)
theorem JJ(ms:List Nat){a b:Nat}(h:a<=b):(ms.take b).sum=(ms.take a).sum+(seg ms a b).sum:=by
 unfold seg;rw [show ms.take b=ms.take (a+(b-a)) by rw [show a+(b-a)=b by omega],List.take_add,List.sum_append]
theorem Zh6{α β:Type}(f:α->β)(l:List α)(a b:Nat):(seg l a b).map f=seg (l.map f) a b:=by
 unfold seg;rw [List.map_take,List.map_drop]
theorem pig{n:Nat}(hn:1<=n)(ms:List Nat)(hm:n<=ms.length):∃a b,a<b/\b<=ms.length/\(seg ms a b).sum % n=0:=by
 refine Classical.byContradiction λq => ?_
 have nd:(UH n ms).Nodup:=by
  refine List.pairwise_iff_getElem.mpr λi j hi hj hij e=>q ⟨i,j,hij,?_,?_⟩
  · rw [Jz]at hj;omega
  · rw [Jz]at hi hj
    have e1:=ZcK (n:=n) (ms:=ms) (i:=i) (by omega);have e2:=ZcK (n:=n) (ms:=ms) (i:=j) (by omega);rw [List.getElem?_eq_getElem (by rw [Jz];omega)]at e1 e2;have e3:(ms.take j).sum % n=(ms.take i).sum % n:=(Option.some.inj e2).symm.trans (e.symm.trans (Option.some.inj e1));rw [JJ ms (Nat.le_of_lt hij)]at e3;have h2:=Nat.sub_mod_eq_zero_of_mod_eq e3
    rwa [Nat.add_sub_cancel_left]at h2
 have:=Uu (UH n ms) (List.range n) nd λx hx=>by
  unfold UH at hx;obtain⟨i,_,rfl⟩:=List.mem_map.mp hx;exact List.mem_range.mpr (Nat.mod_lt _ hn)
 rw [Jz,List.length_range]at this;omega
theorem Zh7{xs:List Nat}(hn:xs.Nodup)(hl:xs.length<=50):∃ks:List Nat,Up [AD xs]=some (AD ks)/\ks.Perm xs/\ks.Pairwise (· < ·):=by
 let zs:=xs.map λa=>((a:Nat):Int)
 have hperm:(Xp zs).Perm zs:=List.mergeSort_perm zs _
 have hnn:∀z∈Xp zs,0<=z:=λz hz=>by
  obtain⟨a,_,rfl⟩:=List.mem_map.mp (hperm.mem_iff.mp hz);exact Int.natCast_nonneg a
 refine⟨(Xp zs).map Int.toNat,?_,?_,?_⟩
 · show Up [.lst (xs.map nD)]=_
   unfold Up;dsimp only;rw [UF];dsimp only;rw [if_pos (by rw [List.length_map];omega)];show some (D.lst ((Xp zs).map D.int))=some (D.lst (((Xp zs).map Int.toNat).map nD));rw [List.map_map]
   congr 2
   refine List.map_congr_left λz hz => ?_
   show D.int z=D.int ((z.toNat:Nat):Int);rw [Int.toNat_of_nonneg (hnn z hz)]
 · have h1:=hperm.map Int.toNat
   have h2:zs.map Int.toNat=xs:=by
    show(xs.map λa=>((a:Nat):Int)).map Int.toNat=xs;rw [List.map_map];exact(List.map_congr_left λa _=>Int.toNat_natCast a).trans (List.map_id' xs)
   rwa [h2]at h1
 · rw [List.pairwise_map]
   have h1:=ZcA zs;have h2:(Xp zs).Nodup:=hperm.nodup_iff.mpr (List.pairwise_map.mpr (hn.imp λz e=>z (by omega)))
   exact(h1.and h2).imp_of_mem λ{a b} ha hb ⟨q1,q2⟩=>by
    have:=hnn a ha;have:=hnn b hb;omega
def others(l s:Nat):List Nat:=(List.range s).filter λk => !decide (k=l)
theorem Zch(l s:Nat)(hl:l<s):(others l s).Nodup/\(∀k∈others l s,k<s/\k≠l)/\(others l s).length=s-1:=by
 have hn:(others l s).Nodup:=List.Pairwise.filter _ List.nodup_range
 have hm:∀k,k∈others l s ↔ k<s/\k≠l:=λk=>by
  unfold others;rw [List.mem_filter,List.mem_range];simp
 refine⟨hn,λk hk=>(hm k).mp hk,?_⟩
 have h1:=Uu (List.range s) (l::others l s) List.nodup_range λk hk=>by
  by_cases e:k=l
  · rw [e];exact List.mem_cons_self
  · exact List.mem_cons_of_mem _ ((hm k).mpr ⟨List.mem_range.mp hk,e⟩)
 have h2:=Uu (l::others l s) (List.range s) (List.nodup_cons.mpr ⟨λz=>((hm l).mp z).2 rfl,hn⟩) λk hk=>by
  rcases List.mem_cons.mp hk with rfl|z
  · exact List.mem_range.mpr hl
  · exact List.mem_range.mpr ((hm k).mp z).1
 rw [List.length_range,List.length_cons]at h1 h2;omega
section
variable{n m:Nat}{W:List Nat}{hs:List Int}{Y:List (List Way)}
theorem JK{r:List Way}{k:Nat}(hk:k<r.length):r[k]? = some (r.getD k ([],0))/\r.getD k ([],0)∈r:=by
 rw [List.getD_eq_getElem?_getD,List.getElem?_eq_getElem hk];exact⟨rfl,List.getElem_mem hk⟩
theorem ZfV (h:Ok n m W hs Y) {M place j a b:Nat} {ks picks:List Nat} (hx:∀w∈W,w<=M) (hp:place<m) (hpw:W.getD place 0=M) (k2:ks.length=n) (hnd:ks.Nodup) (k4:j∈ks) (hwj:wOf W (Y.getD place []) j<M) (k5:∀k∈ks,k<(Y.getD place []).length) (g2:a<b) (g3:b<=n)
 (g4:(seg (ks.map (wOf W (Y.getD place []))) a b).sum % n=0) (hpm:picks.Perm (seg ks a b)) (hinc:picks.Pairwise (· < ·)):Good n M W (Y.getD place []) picks:=by
 have hrow:=(h.row hp).2
 have wle:∀k<(Y.getD place []).length,wOf W (Y.getD place []) k<=M/\1<=wOf W (Y.getD place []) k:=λk hk=>by
  have hm:=(h.wt (h.tg _ hrow _ (JK hk).2)).2;exact⟨hx _ hm,(h.w1 _ hm).1⟩
 have sub:∀k∈picks,k∈ks:=λk hk=>List.mem_of_mem_drop (List.mem_of_mem_take (hpm.mem_iff.mp hk))
 have hall:=ZgC ks (λk hk=>(wle k (k5 k hk)).1) k4 hwj;rw [k2]at hall
 have hps:(picks.map (wOf W (Y.getD place []))).sum=(seg (ks.map (wOf W (Y.getD place []))) a b).sum:=by
  rw [<-Zh6];exact(hpm.map _).sum_nat
 have hsp:=JJ (ks.map (wOf W (Y.getD place []))) (Nat.le_of_lt g2)
 have hle:((ks.map (wOf W (Y.getD place []))).take b).sum<=(ks.map (wOf W (Y.getD place []))).sum:=by
  conv=>rhs;rw [<-List.take_append_drop b (ks.map (wOf W (Y.getD place []))),List.sum_append]
  exact Nat.le_add_right _ _
 have hless:(picks.map (wOf W (Y.getD place []))).sum<n*M:=by omega
 have hpl:picks.length=b-a:=by
  rw [hpm.length_eq];unfold seg;rw [List.length_take,List.length_drop,k2];omega
 have hkl:ks.length<=(Y.getD place []).length:=by
  have:=Uu ks (List.range (Y.getD place []).length) hnd λk hk=>List.mem_range.mpr (k5 k hk)
  rwa [List.length_range]at this
 refine⟨hinc,λk hk=>k5 k (sub k hk),?_,by rw [hps];exact g4,?_,hless⟩
 · rw [hpl]
   refine Nat.lt_of_le_of_ne (by omega) λe => ?_
   have hbr:=h.br place hp;rw [hpw]at hbr;have hbe:ZQ W (Y.getD place [])=((List.range (Y.getD place []).length).map (wOf W (Y.getD place []))).sum:=ZhY W _
   have hsub:=Zed (wOf W (Y.getD place [])) (List.range (Y.getD place []).length) ks List.nodup_range λk hk=>by
    by_cases hin:k∈ks
    · exact hin
    · exfalso
      have:=Uu (k::ks) (List.range (Y.getD place []).length) (List.nodup_cons.mpr ⟨hin,hnd⟩) λx hx=>by
       rcases List.mem_cons.mp hx with rfl|z
       · exact hk
       · exact List.mem_range.mpr (k5 x z)
      rw [List.length_range,List.length_cons]at this;omega
   have hbr:n*M<=ZQ W (Y.getD place []):=hbr;omega
 · cases hz:picks with
   |nil=>rw [hz]at hpl;simp at hpl;omega
   |cons x l=>
    rw [List.map_cons,List.sum_cons];have:=(wle x (k5 x (sub x (by rw [hz];exact List.mem_cons_self)))).2;omega
noncomputable def qB:DL.Env->Option Out:=(Zg (Zl 3 (eCB minQD (Zb (ZC (ZH (eOp ixD (Za 1) (Za 2))) (Zm 0) (λ_=>some true) wC 1 [0]) eNil)))
 (sIf (YW (xB (eOp eqD (eOp ixD (Za 0) (Za 2)) (eCB maxQD (Zb (Za 0) eNil)))) (xB (eOp (Yu λi j=>decide (i<j)) (Za 3) (eOp ixD (Za 0) (Za 2))))) (ZE (Za 2)) sNext))
theorem ZcV:f_QF=Zg (Z5 (ZL (Zb (eCB lenD (Zb (Za 0) eNil)) eNil)) (Zm 2) qB) (ZE (eC .non)):=rfl
theorem ZfW(h:Ok n m W hs Y){M:Nat}(mx:maxQD [WD W]=some (nD M))(hx:∀w∈W,w<=M) :
 (Qz [WD W,YD Y]=some .non/\∀k<m,W.getD k 0=M->∀p∈Y.getD k [],M<=W.getD p.2 0)\/∃k,k<m/\Qz [WD W,YD Y]=some (nD k)/\W.getD k 0=M/\∃p∈Y.getD k [],W.getD p.2 0<M:=by
 have hm5:=h.m5
 have st:=JI (γ:=Zm 2) (φ:=qB) nD (λdn δ=>(∃v2 v3,δ=[some (WD W),some (YD Y),v2,v3])/\∀k∈dn,W.getD k 0=M->∀p∈Y.getD k [],M<=W.getD p.2 0) (λd=>∃k,k<m/\d=nD k/\W.getD k 0=M/\∃p∈Y.getD k [],W.getD p.2 0<M) (List.range m) (by
  rintro dn k r δ e ⟨⟨v2,v3,rfl⟩,hd⟩
  obtain⟨hk1,hk2⟩:=QD e;have hk:k<m:=by omega
  have hrow:=(h.row hk).2;obtain⟨p0,hp0⟩:=h.ne hk;obtain⟨mn,e1,e2,e3⟩:=Zh5 (l:=(Y.getD k []).map λp=>W.getD p.2 0) (by rw [List.length_map];exact List.length_pos_of_mem hp0);refine⟨[some (WD W),some (YD Y),some (nD k),v3],rfl,?_⟩;have hrl:=h.rl _ hrow
  have t1:Zl 3 (eCB minQD (Zb (ZC (ZH (eOp ixD (Za 1) (Za 2))) (Zm 0) (λ_=>some true) wC 1 [0]) eNil)) [some (WD W),some (YD Y),some (nD k),v3]=some (.nx [some (WD W),some (YD Y),some (nD k),some (nD mn)]):=by
   refine(ZK ((ZF (Zf (Yp (δ0:=[none,some (WD W)]) (xs:=(Y.getD k []).map wyD) ?_ rfl (Zec h hrow) (by rw [List.length_map,List.length_map];omega)) nil_of)).trans e1)).trans rfl;unfold ZH;rw [(Zi (x:=YD Y) (y:=nD k) rfl rfl).trans (Ut h hk)];rfl
  have ew:eOp ixD (Za 0) (Za 2) [some (WD W),some (YD Y),some (nD k),some (nD mn)]=some (nD (W.getD k 0)):=(Zi (x:=WD W) (y:=nD k) rfl rfl).trans (X8 h hk)
  have c1:YW (xB (eOp eqD (eOp ixD (Za 0) (Za 2)) (eCB maxQD (Zb (Za 0) eNil)))) (xB (eOp (Yu λi j=>decide (i<j)) (Za 3) (eOp ixD (Za 0) (Za 2)))) [some (WD W),some (YD Y),some (nD k),some (nD mn)]=some (decide (W.getD k 0=M)&&decide (mn<W.getD k 0)):=
   ZhP (ZY ((Zi ew ((ZF (Zf (x:=WD W) rfl nil_of)).trans mx)).trans (UI _ _))) (ZY ((Zi (x:=nD mn) rfl ew).trans (JA _ _)))
  by_cases z:W.getD k 0=M/\mn<W.getD k 0
  · rw [decide_eq_true z.1,decide_eq_true z.2]at c1
    obtain⟨p,hp,ep⟩:=List.mem_map.mp e2;exact .inr ⟨nD k,(Zn t1).trans ((X5 c1).trans (Ys rfl)),k,hk,rfl,z.1,p,hp,by rw [ep,<-z.1];exact z.2⟩
  · have c2 : (decide (W.getD k 0 = M) && decide (mn < W.getD k 0)) = false := by
     rw [<-Bool.not_eq_true,Bool.and_eq_true,decide_eq_true_eq,decide_eq_true_eq];exact z
    rw [c2]at c1;refine .inl ⟨_,(Zn t1).trans ((YK c1).trans rfl),⟨_,_,rfl⟩,λk' hk' hw p hp => ?_⟩;rcases List.mem_append.mp hk' with q|q
    · exact hd k' q hw p hp
    · rw [List.mem_singleton.mp q]at hw hp
      have:=e3 _ (List.mem_map.mpr ⟨p,hp,rfl⟩);omega) (List.range m) [] [some (WD W),some (YD Y),none,none] rfl ⟨⟨_,_,rfl⟩,λk hk=>by cases hk⟩
 have hi:ZL (Zb (eCB lenD (Zb (Za 0) eNil)) eNil) [some (WD W),some (YD Y),none,none]=some ((List.range m).map nD):=by
  refine(Xy (j:=(m:Int)) (Zf ((ZF (Zf (x:=WD W) rfl nil_of)).trans ?_) nil_of) (by omega) (by omega)).trans (by rw [Int.toNat_natCast,X9]);show some (D.int ((W.map nD).length:Int))=_;rw [List.length_map,h.lw]
 rcases st with⟨δ',h1,⟨v2,v3,rfl⟩,h2⟩|⟨d,h1,k,hk,rfl,h3,h4⟩
 · refine .inl ⟨YF (δ:=[some (WD W),some (YD Y),none,none]) rfl ?_,λk hk=>h2 k (List.mem_range.mpr hk)⟩
   rw [ZcV];exact(Zn (Xe hi h1)).trans (Ys rfl)
 · refine .inr ⟨k,hk,YF (δ:=[some (WD W),some (YD Y),none,none]) rfl ?_,h3,h4⟩
   rw [ZcV];exact U8 (Xe hi h1)
end
end K37
namespace K37
open DL L2
section
variable{n m:Nat}{W:List Nat}{hs:List Int}{Y:List (List Way)}
noncomputable def pw:DL.Env->Option D:=(eOp ixD (Za 0) (eOp ixD (eOp ixD (eOp ixD (Za 1) (Za 2)) (eOp ixD (Za 5) (Za 8))) (eC (.int 1))))
noncomputable def p4t:DL.Env->Option Bool:=(xB (eOp (Yu λi j=>decide (i<j)) (eOp ixD (Za 1) (eOp ixD (eOp ixD (eOp ixD (Za 2) (Za 3)) (Za 0)) (eC (.int 1)))) (eOp ixD (Za 1) (Za 3))))
noncomputable def pl:DL.Env->Option (List D):=(Zb (eCB lenD (Zb (eOp ixD (Za 1) (Za 2)) eNil)) eNil)
noncomputable def p4:DL.Env->Option Out:=(Zl 4 (ZC (ZL pl) (Zm 0) p4t (Za 0) 1 [0,1,2]))
noncomputable def p5t:DL.Env->Option Bool:=(xB (eOp neD (Za 0) (eOp ixD (Za 1) (eUn Uf (eC (.int 1))))))
noncomputable def p5:DL.Env->Option Out:=(Zl 5 (ZC (Qt pl) (Zm 0) p5t (Za 0) 1 [4]))
noncomputable def p6:DL.Env->Option Out:=(Zl 5 (eOp Xd (ZS (Zb (eOp ixD (Za 4) (eUn Uf (eC (.int 1)))) eNil)) (eSl (Za 5) xNoP (xP (eOp subD (Za 3) (eC (.int 1)))))))
noncomputable def pC:DL.Env->Option Out:=(Zg (Zl 7 (eOp addX (Za 7) pw))
 (sIf (xB (eOp eqD (eOp modW (Za 7) (Za 3)) (eC (.int 0)))) (ZE (eCB Up (Zb (eSl (Za 5) (xP (Za 6)) (xP (eOp addX (Za 8) (eC (.int 1))))) eNil))) sNext))
noncomputable def pB:DL.Env->Option Out:=(Zg (Zl 7 (eC (.int 0))) (Z5 (ZL (Zb (Za 6) (Zb (eCB lenD (Zb (Za 5) eNil)) eNil))) (Zm 8) pC))
theorem ZfX:f_QE=Zg p4 (Zg p5 (Zg p6 (Zg (Z5 (ZL (Zb (eCB lenD (Zb (Za 5) eNil)) eNil)) (Zm 6) pB) (ZE (ZS eNil))))):=rfl
abbrev XE(W:List Nat)(Y:List (List Way))(place n:Nat)(v4 v5 v6 v7 v8:Option D):DL.Env:=[some (WD W),some (YD Y),some (nD place),some (nD n),v4,v5,v6,v7,v8]
theorem Zh8(s:Nat):Z9 ((s:Int)-1) (-1) s=(List.range s).reverse.map nD:=by
 unfold Z9;apply List.ext_getElem
 · simp
 · intro i h1 h2
   have hi:i<s:=by simpa using h1
   rw [List.getElem_map,List.getElem_map,List.getElem_range,List.getElem_reverse,List.getElem_range,List.length_range];show D.int (((s:Int)-1)+(i:Nat)*(-1))=D.int ((s-1-i:Nat):Int)
   congr 1
   omega
theorem Zh9(b c:Nat):Z9 (b:Int) 1 c=(List.range' b c).map nD:=by
 unfold Z9;apply List.ext_getElem
 · simp
 · intro i h1 h2
   rw [List.getElem_map,List.getElem_map,List.getElem_range,List.getElem_range'];show D.int ((b:Int)+(i:Nat)*1)=D.int ((b+1*i:Nat):Int)
   congr 1
   omega
theorem ZeY{b len:Nat}{dn r:List Nat}{x:Nat}(e:dn++x::r=List.range' b len):x=b+dn.length/\dn.length<len:=by
 have hl:=congrArg List.length e;rw [List.length_append,List.length_cons,List.length_range']at hl;have hd:dn.length<len:=by omega
 have:(dn++x::r)[dn.length]? = some x:=by simp
 rw [e,List.getElem?_range' hd]at this;have:=Option.some.inj this;omega
theorem ZfY(ms:List Nat){a b:Nat}(h:a<=b)(hb:b<ms.length):(seg ms a (b+1)).sum=(seg ms a b).sum+ms.getD b 0:=by
 have h1:=JJ ms (a:=a) (b:=b+1) (by omega);have h2:=JJ ms h;have h3:ms.take (b+1)=ms.take b++[ms.getD b 0]:=ZbA hb;rw [h3,List.sum_append]at h1;simp only [List.sum_cons,List.sum_nil]at h1;omega
def PR(n:Nat)(W:List Nat)(r:List Way)(ks:List Nat)(d:D):Prop:=∃a b picks,d=AD picks/\a<b/\b<=n/\(seg (ks.map (wOf W r)) a b).sum % n=0/\picks.Perm (seg ks a b)/\picks.Pairwise (· < ·)
theorem Zk1(h:Ok n m W hs Y){place:Nat}(hp:place<m){ks:List Nat}(k2:ks.length=n)(hnd:ks.Nodup)(k5:∀k∈ks,k<(Y.getD place []).length)(v4:Option D){b:Nat}(hb:b<n)(v8:Option D) :
 (∃w7 w8,ZV (Zm 8) pC ((List.range' b (n-b)).map nD) (XE W Y place n v4 (some (AD ks)) (some (nD b)) (some (nD 0)) v8)=some (.nx (XE W Y place n v4 (some (AD ks)) (some (nD b)) w7 w8))/\∀c,b<c->c<=n->(seg (ks.map (wOf W (Y.getD place []))) b c).sum % n≠0) \/
 ∃d,ZV (Zm 8) pC ((List.range' b (n-b)).map nD) (XE W Y place n v4 (some (AD ks)) (some (nD b)) (some (nD 0)) v8)=some (.rt d)/\PR n W (Y.getD place []) ks d:=by
 have hn1:=h.n1;have hn6:=h.n6;have hrow:=(h.row hp).2
 have st:=JI (γ:=Zm 8) (φ:=pC) nD (λdn δ=>(∃w8,δ=XE W Y place n v4 (some (AD ks)) (some (nD b)) (some (nD (seg (ks.map (wOf W (Y.getD place []))) b (b+dn.length)).sum)) w8)/\∀c,b<c->c<=b+dn.length->(seg (ks.map (wOf W (Y.getD place []))) b c).sum % n≠0) (PR n W (Y.getD place []) ks) (List.range' b (n-b)) (by
  rintro dn x r δ e ⟨⟨w8,rfl⟩,hd⟩
  obtain⟨hx1,hx2⟩:=ZeY e;have hx:x<n:=by omega
  have hxk:x<ks.length:=by omega
  obtain⟨S,hS⟩:∃S,S=(seg (ks.map (wOf W (Y.getD place []))) b (b+dn.length)).sum:=⟨_,rfl⟩
  rw [<-hS];have hkx:ks[x]? = some (ks.getD x 0):=by rw [List.getD_eq_getElem?_getD,List.getElem?_eq_getElem hxk];rfl
  have hkm:ks.getD x 0∈ks:=List.mem_of_getElem? hkx
  have hS2:(seg (ks.map (wOf W (Y.getD place []))) b (b+(dn++[x]).length)).sum=S+wOf W (Y.getD place []) (ks.getD x 0):=by
   rw [List.length_append,List.length_singleton,<-Nat.add_assoc,ZfY _ (by omega) (by rw [List.length_map];omega),<-hS,<-hx1]
   congr 1
   rw [List.getD_eq_getElem?_getD,List.getElem?_map,hkx];rfl
  refine⟨XE W Y place n v4 (some (AD ks)) (some (nD b)) (some (nD S)) (some (nD x)),rfl,?_⟩;have hw:=JK (k5 _ hkm)
  have ew:pw (XE W Y place n v4 (some (AD ks)) (some (nD b)) (some (nD S)) (some (nD x)))=some (nD (wOf W (Y.getD place []) (ks.getD x 0))):=by
   have ei:ixD (rowD (Y.getD place [])) (nD (ks.getD x 0))=some (wyD ((Y.getD place []).getD (ks.getD x 0) ([],0))):=ix_tup (by rw [List.getElem?_map,hw.1];rfl);exact(Zi (x:=WD W) (y:=nD ((Y.getD place []).getD (ks.getD x 0) ([],0)).2) rfl ((Zi ((Zi ((Zi (x:=YD Y) (y:=nD place) rfl rfl).trans (Ut h hp)) ((Zi (x:=AD ks) (y:=nD x) rfl rfl).trans (JB hxk))).trans ei) rfl).trans (V5 _))).trans (X8 h (h.tg _ hrow _ hw.2))
  have t1:Zl 7 (eOp addX (Za 7) pw) (XE W Y place n v4 (some (AD ks)) (some (nD b)) (some (nD S)) (some (nD x)))=some (.nx (XE W Y place n v4 (some (AD ks)) (some (nD b)) (some (nD (S+wOf W (Y.getD place []) (ks.getD x 0)))) (some (nD x)))):=by
   refine(ZK ((Zi (x:=nD S) rfl ew).trans (add_int _ _))).trans ?_;rw [show((S:Int)+(wOf W (Y.getD place []) (ks.getD x 0):Int))=((S+wOf W (Y.getD place []) (ks.getD x 0):Nat):Int) by push_cast;rfl];rfl
  rw [hS2];generalize hT:S+wOf W (Y.getD place []) (ks.getD x 0)=T at t1 hS2;have c1:xB (eOp eqD (eOp modW (Za 7) (Za 3)) (eC (.int 0))) (XE W Y place n v4 (some (AD ks)) (some (nD b)) (some (nD T)) (some (nD x)))=some (decide (T % n=0)):=ZY ((Zi (y:=nD 0) ((Zi (x:=nD T) (y:=nD n) rfl rfl).trans (UG hn1)) rfl).trans (UI _ _))
  by_cases z:T % n=0
  · rw [decide_eq_true z]at c1
    have hsn:(seg ks b (x+1)).Nodup:=(hnd.sublist (List.drop_sublist _ _)).sublist (List.take_sublist _ _);obtain⟨picks,y1,y2,y3⟩:=Zh7 hsn (by unfold seg;rw [List.length_take];omega);refine .inr ⟨AD picks,(Zn t1).trans ((X5 c1).trans (Ys ((ZF (Zf (x:=AD (seg ks b (x+1))) ?_ nil_of)).trans y1))),b,x+1,picks,rfl,by omega,by omega,?_,y2,y3⟩
    · refine(ZiI (xs:=ks.map nD) (l:=some (b:Int)) (u:=some ((x+1:Nat):Int)) rfl (Zg2 rfl) (Zg2 ((Zi (x:=nD x) (y:=.int 1) rfl rfl).trans ((add_int _ _).trans ?_)))).trans ?_
      · rw [show((x:Int)+1)=((x+1:Nat):Int) by push_cast;rfl]
      · rw [Zjt _ (by omega) (by rw [List.length_map];omega),<-List.map_drop,<-List.map_take]
        rfl
    · rw [show x+1=b+(dn++[x]).length by rw [List.length_append,List.length_singleton];omega,hS2]
      exact z
  · rw [decide_eq_false z]at c1
    refine .inl ⟨_,(Zn t1).trans ((YK c1).trans rfl),⟨_,rfl⟩,λc hc1 hc2 => ?_⟩
    by_cases q:c<=b+dn.length
    · exact hd c hc1 q
    · have : c = b + (dn ++ [x]).length := by
       rw [List.length_append,List.length_singleton]at hc2 ⊢;omega
      rw [this,hS2];exact z) (List.range' b (n-b)) [] (XE W Y place n v4 (some (AD ks)) (some (nD b)) (some (nD 0)) v8) rfl ⟨⟨v8,by unfold seg;simp⟩,λc h1 h2=>by simp at h2;omega⟩
 rcases st with⟨δ',h1,⟨w8,rfl⟩,h2⟩|z
 · refine .inl ⟨_,_,h1,λc hc1 hc2=>h2 c hc1 (by rw [List.length_range'];omega)⟩
 · exact .inr z
theorem ZfZ(h:Ok n m W hs Y){M place:Nat}(hx:∀w∈W,w<=M)(hp:place<m)(hpw:W.getD place 0=M)(hl:∃p∈Y.getD place [],W.getD p.2 0<M) :
 ∃picks,Js [WD W,YD Y,nD place,nD n]=some (AD picks)/\Good n M W (Y.getD place []) picks:=by
 have hn1:=h.n1;have hn6:=h.n6;have hrow:=(h.row hp).2;have hrl:=h.rl _ hrow;have hM1:1<=M:=by rw [<-hpw];exact(h.w1 _ (h.wt hp).2).1
 have hns:=ZhX h hp hpw hx hM1;obtain⟨r,hr⟩:∃r,r=Y.getD place []:=⟨_,rfl⟩
 have elen:pl (XE W Y place n none none none none none)=some [.int (r.length:Int)]/\∀v4,pl (XE W Y place n v4 none none none none)=some [.int (r.length:Int)]:=by
  have:∀v4,pl (XE W Y place n v4 none none none none)=some [.int (r.length:Int)]:=λv4=>Zf ((ZF (Zf ((Zi (x:=YD Y) (y:=nD place) rfl rfl).trans (Ut h hp)) nil_of)).trans (by
   show some (D.int (((Y.getD place []).map wyD).length:Int))=_;rw [List.length_map,hr])) nil_of
  exact⟨this none,this⟩
 obtain⟨ls,hls⟩:∃ls,ls=(List.range r.length).filter λk=>decide (wOf W r k<M):=⟨_,rfl⟩
 have hlsn:ls≠[]:=λq=>by
  obtain⟨p,hp1,hp2⟩:=hl;rw [<-hr]at hp1;obtain⟨i,hi,e⟩:=List.mem_iff_getElem.mp hp1
  have:i∈ls:=by
   rw [hls];refine List.mem_filter.mpr ⟨List.mem_range.mpr hi,?_⟩;rw [decide_eq_true_eq];unfold wOf;rw [List.getD_eq_getElem?_getD (l:=r),List.getElem?_eq_getElem hi,e];exact hp2
  rw [q]at this;cases this
 obtain⟨l0,j,hlj⟩:∃l0 j,ls=l0++[j]:=⟨_,_,(List.dropLast_concat_getLast hlsn).symm⟩
 have hj:j<r.length/\wOf W r j<M:=by
  have:j∈ls:=by rw [hlj];simp
  rw [hls]at this;obtain⟨q1,q2⟩:=List.mem_filter.mp this;exact⟨List.mem_range.mp q1,by simpa using q2⟩
 have hlsl:ls.length<=150:=by
  have:=List.length_filter_le (λk=>decide (wOf W r k<M)) (List.range r.length);rw [List.length_range,<-hls]at this;rw [<-hr]at hrl;omega
 have t4:p4 (XE W Y place n none none none none none)=some (.nx (XE W Y place n (some (AD ls)) none none none none)):=by
  refine(ZK (Yp (δ0:=[none,some (WD W),some (YD Y),some (nD place)]) (xs:=(List.range r.length).map nD) ((Xy elen.1 (by omega) (by rw [<-hr]at hrl;omega)).trans (by rw [Int.toNat_natCast,X9])) rfl (ZaA (τ:=p4t) (ε:=Za 0) nD (λk=>decide (wOf W r k<M)) (List.range r.length) λk hk=>⟨[some (nD k),some (WD W),some (YD Y),some (nD place)],rfl,ZY ?_,rfl⟩) (by rw [List.length_map,<-hls];omega))).trans (by rw [<-hls];rfl)
  have hk2:k<(Y.getD place []).length:=by rw [<-hr];exact List.mem_range.mp hk
  have hw:=JK hk2;have ei:ixD (rowD (Y.getD place [])) (nD k)=some (wyD ((Y.getD place []).getD k ([],0))):=ix_tup (by rw [List.getElem?_map,hw.1];rfl);refine(Zi (x:=nD (wOf W r k)) (y:=nD M) ((Zi (x:=WD W) (y:=nD ((Y.getD place []).getD k ([],0)).2) rfl ((Zi ((Zi ((Zi (x:=YD Y) (y:=nD place) rfl rfl).trans (Ut h hp)) rfl).trans ei) rfl).trans (V5 _))).trans ((X8 h (h.tg _ hrow _ hw.2)).trans (by rw [hr];rfl))) ((Zi (x:=WD W) (y:=nD place) rfl rfl).trans ((X8 h hp).trans (by rw [hpw])))).trans (JA _ _)
 have last:∀(δ:DL.Env)(i:Nat),Za i δ=some (AD ls)->eOp ixD (Za i) (eUn Uf (eC (.int 1))) δ=some (nD j):=λδ i e=>by
  refine(Zi (x:=AD ls) (y:=.int (-1)) e rfl).trans ?_;show ixD (.lst (ls.map nD)) (.int (-1))=_;rw [hlj,List.map_append];exact Ze9 _ _
 obtain⟨o1,o2,o3⟩:=Zch j r.length hj.1
 have eo:(List.range r.length).reverse.filter (λk => !decide (k=j))=(others j r.length).reverse:=by
  unfold others;rw [List.filter_reverse]
 have t5:p5 (XE W Y place n (some (AD ls)) none none none none)=some (.nx (XE W Y place n (some (AD ls)) (some (AD (others j r.length).reverse)) none none none)):=by
  refine(ZK (Yp (δ0:=[none,some (AD ls)]) (xs:=(List.range r.length).reverse.map nD) ?_ rfl (ZaA (τ:=p5t) (ε:=Za 0) nD (λk => !decide (k=j)) (List.range r.length).reverse λk hk=>⟨[some (nD k),some (AD ls)],rfl,ZY ((Zi (x:=nD k) rfl (last _ 1 rfl)).trans (QB _ _)),rfl⟩) (by rw [List.length_map,eo,List.length_reverse,o3];rw [<-hr]at hrl;omega))).trans (by rw [eo];rfl)
  unfold Qt;rw [elen.2];dsimp only;rw [if_pos ⟨Int.natCast_nonneg _,by rw [<-hr]at hrl;omega⟩,Int.toNat_natCast,Zh8]
 obtain⟨ks,hks⟩:∃ks,ks=j::(others j r.length).reverse.take (n-1):=⟨_,rfl⟩
 have t6:p6 (XE W Y place n (some (AD ls)) (some (AD (others j r.length).reverse)) none none none)=some (.nx (XE W Y place n (some (AD ls)) (some (AD ks)) none none none)):=by
  refine(ZK (d:=AD ks) ((Zi (x:=.lst [nD j]) (y:=AD ((others j r.length).reverse.take (n-1))) (Xq (ds:=[nD j]) (Zf (last _ 4 rfl) nil_of) (by show 1<=1000;decide)) ?_).trans ?_)).trans rfl
  · refine(ZiI (xs:=(others j r.length).reverse.map nD) (l:=none) (u:=some ((n-1:Nat):Int)) rfl rfl (Zg2 ?_)).trans ?_
    · refine(Zi (x:=nD n) (y:=.int 1) rfl rfl).trans ?_
      show some (D.int ((n:Int)-1))=_;rw [show((n:Int)-1)=((n-1:Nat):Int) by omega]
    · rw [ZhW,<-List.map_take]
  · refine(Qc ?_).trans ?_
    · show 1+_<=1000000
      rw [List.length_map,List.length_take];omega
    · rw [hks]
      rfl
 have k2:ks.length=n:=by
  rw [hks,List.length_cons,List.length_take,List.length_reverse,o3];rw [<-hr]at hns;omega
 have hnd:ks.Nodup:=by
  rw [hks];exact List.nodup_cons.mpr ⟨λq=>(o2 j (List.mem_reverse.mp (List.mem_of_mem_take q))).2 rfl,((List.reverse_perm _).nodup_iff.mpr o1).sublist (List.take_sublist _ _)⟩
 have k4:j∈ks:=by rw [hks];exact List.mem_cons_self
 have k5:∀k∈ks,k<(Y.getD place []).length:=λk hk=>by
  rw [<-hr];rw [hks]at hk;rcases List.mem_cons.mp hk with rfl|q
  · exact hj.1
  · exact(o2 k (List.mem_reverse.mp (List.mem_of_mem_take q))).1
 have st:=JI (γ:=Zm 6) (φ:=pB) nD (λdn δ=>(∃w6 w7 w8,δ=XE W Y place n (some (AD ls)) (some (AD ks)) w6 w7 w8)/\∀a c,a<dn.length->a<c->c<=n->(seg (ks.map (wOf W (Y.getD place []))) a c).sum % n≠0) (PR n W (Y.getD place []) ks) (List.range n) (by
  rintro dn x rest δ e ⟨⟨w6,w7,w8,rfl⟩,hd⟩
  obtain⟨hx1,hx2⟩:=QD e;have hxn:x<n:=by omega
  refine⟨XE W Y place n (some (AD ls)) (some (AD ks)) (some (nD x)) w7 w8,rfl,?_⟩;have t1:Zl 7 (eC (.int 0)) (XE W Y place n (some (AD ls)) (some (AD ks)) (some (nD x)) w7 w8)=some (.nx (XE W Y place n (some (AD ls)) (some (AD ks)) (some (nD x)) (some (nD 0)) w8)):=ZK rfl
  have hi:ZL (Zb (Za 6) (Zb (eCB lenD (Zb (Za 5) eNil)) eNil)) (XE W Y place n (some (AD ls)) (some (AD ks)) (some (nD x)) (some (nD 0)) w8)=some ((List.range' x (n-x)).map nD):=by
   refine(Zgz (i:=(x:Int)) (j:=(n:Int)) (Zf rfl (Zf ((ZF (Zf (x:=AD ks) rfl nil_of)).trans ?_) nil_of)) (by omega) (by omega) (by omega) (by omega)).trans ?_
   · show some (D.int ((ks.map nD).length:Int))=_
     rw [List.length_map,k2]
   · rw [show((n:Int)-(x:Int)).toNat=n-x by omega,Zh9]
  rcases Zk1 h hp k2 hnd k5 (some (AD ls)) hxn w8 with⟨u7,u8,y1,y2⟩|⟨d,y1,y2⟩
  · refine .inl ⟨_,(Zn t1).trans (Xe hi y1),⟨_,_,_,rfl⟩,λa c ha hc1 hc2 => ?_⟩
    by_cases q:a<dn.length
    · exact hd a c q hc1 hc2
    · rw [List.length_append,List.length_singleton]at ha
      have:a=x:=by omega
      subst this;exact y2 c hc1 hc2
  · exact .inr ⟨d,(Zn t1).trans (Xe hi y1),y2⟩) (List.range n) [] (XE W Y place n (some (AD ls)) (some (AD ks)) none none none) rfl ⟨⟨_,_,_,rfl⟩,λa c ha=>absurd ha (Nat.not_lt_zero _)⟩
 have hi:ZL (Zb (eCB lenD (Zb (Za 5) eNil)) eNil) (XE W Y place n (some (AD ls)) (some (AD ks)) none none none)=some ((List.range n).map nD):=by
  refine(Xy (j:=(n:Int)) (Zf ((ZF (Zf (x:=AD ks) rfl nil_of)).trans ?_) nil_of) (by omega) (by omega)).trans (by rw [Int.toNat_natCast,X9]);show some (D.int ((ks.map nD).length:Int))=_;rw [List.length_map,k2]
 rcases st with⟨δ',_,_,y2⟩|⟨d,y1,a,b,picks,rfl,g2,g3,g4,g5,g6⟩
 · exfalso
   obtain⟨a,b,q1,q2,q3⟩:=pig hn1 (ks.map (wOf W (Y.getD place []))) (by rw [List.length_map,k2];exact Nat.le_refl _);rw [List.length_map,k2]at q2;exact y2 a b (by rw [List.length_range];omega) q1 q2 q3
 · refine⟨picks,YF (δ:=XE W Y place n none none none none none) rfl ?_,ZfV h hx hp hpw k2 hnd k4 (by rw [<-hr];exact hj.2) k5 g2 g3 g4 g5 g6⟩
   rw [ZfX,Zn t4,Zn t5,Zn t6];exact U8 (Xe hi y1)
end
end K37
namespace K37
open DL L2
section
variable{n m M place:Nat}{W:List Nat}{hs:List Int}{Y:List (List Way)}{picks:List Nat}
theorem Zci{r:List Way}(hi:picks.Pairwise (· < ·))(hl:∀k∈picks,k<r.length):Zq true picks r=picks.map λk=>r.getD k ([],0):=by
 unfold Zq;rw [JE,List.filter_map,List.map_map]
 have e:(List.range r.length).filter ((λq:Nat×Way=>decide (q.1∈picks) == true)∘λk=>(0+k,r.getD k ([],0)))=picks:=by
  refine ZdB (List.Pairwise.filter _ List.pairwise_lt_range) hi λt => ?_
  rw [List.mem_filter,List.mem_range];show _/\(decide (0+t∈picks) == true)=true ↔ _;rw [Nat.zero_add];exact⟨λz=>by simpa using z.2,λz=>⟨hl t z,by simpa using z⟩⟩
 rw [e];rfl
theorem ZbO(r:List Way):Zq false picks r=((List.range r.length).filter λk => !decide (k∈picks)).map λk=>r.getD k ([],0):=by
 unfold Zq;rw [JE,List.filter_map,List.map_map]
 have e:(List.range r.length).filter ((λq:Nat×Way=>decide (q.1∈picks) == false)∘λk=>(0+k,r.getD k ([],0)))=(List.range r.length).filter λk => !decide (k∈picks):=by
  refine List.filter_congr λt _ => ?_
  show(decide (0+t∈picks) == false)=_;rw [Nat.zero_add];cases decide (t∈picks)<;>rfl
 rw [e];rfl
abbrev Zt(r:List Way):D := .lst (r.map wyD)
def Zr(Y:List (List Way))(place:Nat)(picks:List Nat):List (List Way):=(Y++[Zq false picks (Y.getD place [])]).set place (Zq true picks (Y.getD place []))
theorem Zf0:Yo Y m place picks=(Zr Y place picks).map (Zu place m):=by
 unfold Yo Yn Zr;rw [List.map_set,List.map_set,List.map_append,List.map_append,List.map_map];rfl
theorem ZeZ(hp:place<W.length):Yc n W Y place picks=W.set place (shr n W Y place picks)++[W.getD place 0-shr n W Y place picks]:=by
 unfold Yc;exact List.set_append_left _ _ hp
noncomputable def h7c:DL.Env->Option D:=(eOp ixD (eOp ixD (Za 1) (Za 2)) (Za 0))
noncomputable def b7:DL.Env->Option Out:=(Zl 7 (ZC (ZH (Za 2)) (Zm 0) (λ_=>some true) h7c 1 [6,1]))
noncomputable def h8t:DL.Env->Option Bool:=(xB (eOp (inD true) (Za 0) (Za 3)))
noncomputable def b8:DL.Env->Option Out:=(Zl 8 (ZC (ZL (Zb (eCB lenD (Zb (eOp ixD (Za 6) (Za 1)) eNil)) eNil)) (Zm 0) h8t h7c 1 [6,1,2]))
noncomputable def b9:DL.Env->Option Out:=(Zl 9 (eOp fdivW (eCB sumLD (Zb (ZC (ZH (Za 7)) (Zm 0) (λ_=>some true) wC 1 [5]) eNil)) (Za 3)))
noncomputable def b10:DL.Env->Option Out:=(Zl 10 (eOp Xd (ZC (ZH (Za 6)) (Zm 0) (λ_=>some true) lC 1 []) (ZS (Zb (Za 8) eNil))))
noncomputable def hC:DL.Env->Option Out:=(Zg (Yr 13 (Yl (Zb (Za 14) (Zb (Za 15) eNil)))) (sIf (xB (eOp eqD (Za 15) (Za 1))) (Yr 13 (Yl (Zb (Za 14) (Zb (eCB lenD (Zb (Za 4) eNil)) eNil)))) sNext))
noncomputable def hB:DL.Env->Option Out:=(Zg (Zl 13 (ZS eNil)) (Zg (Z5 (ZH (Za 12)) (Y4 2 (ZW 14 (ZW 15 gsNil))) hC) (Yr 11 (eCB ZO (Zb (Za 13) eNil)))))
noncomputable def h16:DL.Env->Option D:=(eIf (xB (eOp neD (Za 0) (Za 1))) (eOp ixD (Za 2) (Za 0)) (Za 3))
noncomputable def b16:DL.Env->Option Out:=(Zl 16 (ZC (ZL (Zb (eCB lenD (Zb (Za 5) eNil)) eNil)) (Zm 0) (λ_=>some true) h16 1 [1,5,9]))
noncomputable def hR:DL.Env->Option Out:=(ZE (Yl (Zb (eOp catT (Za 4) (Yl (Zb (eOp ixD (Za 4) (Za 1)) eNil))) (Zb (eCB ZO (Zb (eOp Xd (Za 16) (ZS (Zb (eOp subD (eOp ixD (Za 5) (Za 1)) (Za 9)) eNil))) eNil)) (Zb (eCB ZO (Zb (Za 11) eNil)) eNil)))))
theorem Ze0:f_QC=Zg (Uq (Y4 3 (ZW 4 (ZW 5 (ZW 6 gsNil)))) (Za 0)) (Zg b7 (Zg b8 (Zg b9 (Zg b10 (Zg (Xw 10 (Za 1) (Za 7)) (Zg (Zl 11 (ZS eNil)) (Zg (Z5 (ZH (Za 10)) (Zm 12) hB) (Zg b16 hR)))))))):=rfl
abbrev HE(W:List Nat)(hs:List Int)(Y:List (List Way))(place:Nat)(picks:List Nat)(n:Nat)(v7 v8 v9 v10 v11 v12 v13 v14 v15 v16:Option D):DL.Env:=[some (ZM W hs Y),some (nD place),some (AD picks),some (nD n),some (HD hs),some (WD W),some (YD Y),v7,v8,v9,v10,v11,v12,v13,v14,v15,v16]
theorem ZjG{τ:DL.Env->Option Bool}{a b:DL.Env->Option D}{δ:DL.Env}{c:Bool}(h:τ δ=some c):eIf τ a b δ=if c then a δ else b δ:=by
 unfold eIf;rw [h];cases c<;>rfl
theorem Zk2(h:Ok n m W hs Y)(r:List Way)(hl:r.length<=300)(v7 v8 v9 v10 v11 v12 v14 v15 v16:Option D):∃w14 w15,ZV (Y4 2 (ZW 14 (ZW 15 gsNil))) hC (r.map wyD) (HE W hs Y place picks n v7 v8 v9 v10 v11 v12 (some (Zt [])) v14 v15 v16)=some (.nx (HE W hs Y place picks n v7 v8 v9 v10 v11 v12 (some (Zt (Zu place m r))) w14 w15 v16)):=by
 obtain⟨δ',h1,w4,w5,rfl⟩:=UD (γ:=Y4 2 (ZW 14 (ZW 15 gsNil))) (φ:=hC) wyD (λdn δ=>∃w4 w5,δ=HE W hs Y place picks n v7 v8 v9 v10 v11 v12 (some (Zt (Zu place m dn))) w4 w5 v16) r (by
  rintro dn p rest δ e ⟨w4,w5,rfl⟩
  have hdl:dn.length<=300:=by
   have:=congrArg List.length e;rw [List.length_append]at this;omega
  have hd2:=QE place m dn;refine⟨HE W hs Y place picks n v7 v8 v9 v10 v11 v12 (some (Zt (Zu place m dn))) (some (.str p.1)) (some (nD p.2)) v16,rfl,HE W hs Y place picks n v7 v8 v9 v10 v11 v12 (some (Zt (Zu place m (dn++[p])))) (some (.str p.1)) (some (nD p.2)) v16,?_,_,_,rfl⟩
  have t1:Yr 13 (Yl (Zb (Za 14) (Zb (Za 15) eNil))) (HE W hs Y place picks n v7 v8 v9 v10 v11 v12 (some (Zt (Zu place m dn))) (some (.str p.1)) (some (nD p.2)) v16)=some (.nx (HE W hs Y place picks n v7 v8 v9 v10 v11 v12 (some (Zt (Zu place m dn++[p]))) (some (.str p.1)) (some (nD p.2)) v16)):=by
   refine(Us (xs:=(Zu place m dn).map wyD) (d:=wyD p) rfl (VR (Zf rfl (Zf rfl nil_of)) (by show 2<=1000;decide)) (by rw [List.length_map];omega)).trans ?_;rw [show(Zu place m dn).map wyD++[wyD p]=(Zu place m dn++[p]).map wyD by rw [List.map_append];rfl];rfl
  have c1:xB (eOp eqD (Za 15) (Za 1)) (HE W hs Y place picks n v7 v8 v9 v10 v11 v12 (some (Zt (Zu place m dn++[p]))) (some (.str p.1)) (some (nD p.2)) v16)=some (decide (p.2=place)):=ZY ((Zi (x:=nD p.2) (y:=nD place) rfl rfl).trans (UI _ _));refine(Zn t1).trans ?_;rw [ZeX];unfold dbl
  by_cases z:p.2=place
  · rw [decide_eq_true z]at c1
    rw [if_pos z];refine(X5 c1).trans ((Us (xs:=(Zu place m dn++[p]).map wyD) (d:=wyD (p.1,m)) rfl (VR (Zf rfl (Zf ((ZF (Zf (x:=HD hs) rfl nil_of)).trans ?_) nil_of)) (by show 2<=1000;decide)) (by rw [List.length_map,List.length_append,List.length_singleton];omega)).trans ?_)
    · show some (D.int ((hs.map D.int).length:Int))=_
      rw [List.length_map,h.lh]
    · rw [show(Zu place m dn++[p]).map wyD++[wyD (p.1,m)]=(Zu place m dn++[p,(p.1,m)]).map wyD by rw [List.map_append,List.map_append,List.append_assoc];rfl]
      rfl
  · rw [decide_eq_false z]at c1
    rw [if_neg z];exact(YK c1).trans rfl) r [] (HE W hs Y place picks n v7 v8 v9 v10 v11 v12 (some (Zt [])) v14 v15 v16) rfl ⟨_,_,rfl⟩
 exact⟨w4,w5,h1⟩
theorem Ze1(h:Ok n m W hs Y)(hp:place<m)(hM:W.getD place 0=M)(G:Good n M W (Y.getD place []) picks):QA [ZM W hs Y,nD place,AD picks,nD n]=some (ZM (Yc n W Y place picks) (Qd hs place) (Yo Y m place picks)):=by
 obtain⟨s1,s2,s3⟩:=Zg4 G;have hm5:=h.m5;have hn1:=h.n1;have hn6:=h.n6;have hrow:=(h.row hp).2;have hrl:=h.rl _ hrow;have hl1:=JD true picks (Y.getD place []);have hl2:=JD false picks (Y.getD place []);have er:=Ut h hp;obtain⟨r,hr⟩:∃r,r=Y.getD place []:=⟨_,rfl⟩
 have hpt:=Zci (r:=r) G.inc (by rw [hr];exact G.lt);have hpf:=ZbO (picks:=picks) r;have hptm:∀p∈Zq true picks r,p.2<m:=λp hq=>h.tg _ hrow p (by rw [hr]at hq;exact Qb hq)
 have hpl:picks.length<=r.length:=by rw [hr];exact Nat.le_of_lt G.len
 obtain⟨pt,ept⟩:∃pt,pt=Zq true picks r:=⟨_,rfl⟩
 obtain⟨pf,epf⟩:∃pf,pf=Zq false picks r:=⟨_,rfl⟩
 rw [<-hr]at er hrl hl1 hl2;rw [<-ept]at hl1 hpt hptm;rw [<-epf]at hl2 hpf;have hix:∀k,k<r.length->ixD (rowD r) (nD k)=some (wyD (r.getD k ([],0))):=λk hk=>ix_tup (by rw [List.getElem?_map,(JK hk).1];rfl)
 have t7:b7 (HE W hs Y place picks n none none none none none none none none none none)=some (.nx (HE W hs Y place picks n (some (Zt pt)) none none none none none none none none none)):=by
  refine(ZK (Yp (δ0:=[none,some (YD Y),some (nD place)]) (xs:=picks.map nD) rfl rfl (YL (ε:=h7c) nD (λk=>wyD (r.getD k ([],0))) picks λk hk=>⟨[some (nD k),some (YD Y),some (nD place)],rfl,(Zi ((Zi (x:=YD Y) (y:=nD place) rfl rfl).trans er) rfl).trans (hix k (by rw [hr];exact G.lt k hk))⟩) (by rw [List.length_map];omega))).trans ?_;rw [show picks.map (λk=>wyD (r.getD k ([],0)))=pt.map wyD by rw [hpt,List.map_map];rfl]
  rfl
 have t8:b8 (HE W hs Y place picks n (some (Zt pt)) none none none none none none none none none)=some (.nx (HE W hs Y place picks n (some (Zt pt)) (some (Zt pf)) none none none none none none none none)):=by
  refine(ZK (Yp (δ0:=[none,some (YD Y),some (nD place),some (AD picks)]) (xs:=(List.range r.length).map nD) ((Xy (j:=(r.length:Int)) (Zf ((ZF (Zf ((Zi (x:=YD Y) (y:=nD place) rfl rfl).trans er) nil_of)).trans ?_) nil_of) (by omega) (by omega)).trans (by rw [Int.toNat_natCast,X9])) rfl (ZaD (τ:=h8t) (ε:=h7c) nD (λk=>wyD (r.getD k ([],0))) (λk => !decide (k∈picks)) (List.range r.length) λk hk=>⟨[some (nD k),some (YD Y),some (nD place),some (AD picks)],rfl,ZY ((Zi (x:=nD k) (y:=AD picks) rfl rfl).trans (Zg1 k picks)),(Zi ((Zi (x:=YD Y) (y:=nD place) rfl rfl).trans er) rfl).trans (hix k (List.mem_range.mp hk))⟩) ?_)).trans ?_
  · show some (D.int ((r.map wyD).length:Int))=_
    rw [List.length_map]
  · have:=List.length_filter_le (λk => !decide (k∈picks)) (List.range r.length)
    rw [List.length_range]at this;rw [List.length_map];omega
  · rw [show((List.range r.length).filter λk => !decide (k∈picks)).map (λk=>wyD (r.getD k ([],0)))=pf.map wyD by rw [hpf,List.map_map];rfl]
    rfl
 have hsh:ZQ W pt / n=shr n W Y place picks:=by
  unfold shr;rw [ept,hr]
 have t9:b9 (HE W hs Y place picks n (some (Zt pt)) (some (Zt pf)) none none none none none none none none)=some (.nx (HE W hs Y place picks n (some (Zt pt)) (some (Zt pf)) (some (nD (shr n W Y place picks))) none none none none none none none)):=by
  refine(ZK ((Zi (x:=nD (ZQ W pt)) (y:=nD n) ((ZF (Zf (Yp (δ0:=[none,some (WD W)]) (xs:=pt.map wyD) rfl rfl (ys:=(pt.map λp=>W.getD p.2 0).map nD) ?_ ?_) nil_of)).trans (Jy _)) rfl).trans ((QC hn1 (by omega)).trans (by rw [hsh])))).trans rfl
  · rw [List.map_map]
    exact YL (ε:=wC) wyD _ pt λp hq=>⟨[some (wyD p),some (WD W)],rfl,(Zi (x:=WD W) (y:=nD p.2) rfl ((Zi (x:=wyD p) (y:=.int 1) rfl rfl).trans (V5 p))).trans (X8 h (hptm p hq))⟩
  · rw [List.length_map,List.length_map]
    omega
 obtain⟨sh,esh⟩:∃sh,sh=shr n W Y place picks:=⟨_,rfl⟩
 rw [<-esh]at t9 s3
 have t10:b10 (HE W hs Y place picks n (some (Zt pt)) (some (Zt pf)) (some (nD sh)) none none none none none none none)=some (.nx (HE W hs Y place picks n (some (Zt pt)) (some (Zt pf)) (some (nD sh)) (some (.lst ((Y++[pf]).map Zt))) none none none none none none)):=by
  refine(ZK ((Zi (x:=.lst (Y.map Zt)) (y:=.lst [Zt pf]) (Yp (δ0:=[none]) (xs:=Y.map rowD) rfl rfl (YL (ε:=lC) rowD Zt Y λq _=>⟨[some (rowD q)],rfl,(ZF (Zf (x:=rowD q) rfl nil_of)).trans rfl⟩) (by rw [List.length_map,h.ly];omega)) (Xq (ds:=[Zt pf]) (Zf rfl nil_of) (by show 1<=1000;decide))).trans (Qc (by rw [List.length_map,h.ly];show m+1<=1000000;omega)))).trans ?_
  rw [show Y.map Zt++[Zt pf]=(Y++[pf]).map Zt by rw [List.map_append];rfl];rfl
 obtain⟨Z,eZ⟩:∃Z,Z=Zr Y place picks:=⟨_,rfl⟩
 have eZ2:Z=(Y++[pf]).set place pt:=by rw [eZ,ept,epf,hr];rfl
 have t11:Xw 10 (Za 1) (Za 7) (HE W hs Y place picks n (some (Zt pt)) (some (Zt pf)) (some (nD sh)) (some (.lst ((Y++[pf]).map Zt))) none none none none none none)=some (.nx (HE W hs Y place picks n (some (Zt pt)) (some (Zt pf)) (some (nD sh)) (some (.lst (Z.map Zt))) none none none none none none)):=by
  refine(Zb6 (xs:=(Y++[pf]).map Zt) (j:=place) (d:=Zt pt) rfl rfl rfl (by rw [List.length_map,List.length_append,h.ly];omega)).trans ?_;rw [show((Y++[pf]).map Zt).set place (Zt pt)=Z.map Zt by rw [eZ2,List.map_set]];rfl
 have hZl:∀q∈Z,q.length<=300:=λq hq=>by
  rw [eZ2]at hq;rcases List.mem_or_eq_of_mem_set hq with z|z
  · rcases List.mem_append.mp z with z|z
    · exact Nat.le_trans (h.rl q z) (by decide)
    · rw [List.mem_singleton.mp z];omega
  · rw [z];omega
 have hZn:Z.length=m+1:=by
  rw [eZ2,List.length_set,List.length_append,h.ly];rfl
 have t12:Zl 11 (ZS eNil) (HE W hs Y place picks n (some (Zt pt)) (some (Zt pf)) (some (nD sh)) (some (.lst (Z.map Zt))) none none none none none none)=some (.nx (HE W hs Y place picks n (some (Zt pt)) (some (Zt pf)) (some (nD sh)) (some (.lst (Z.map Zt))) (some (.lst [])) none none none none none)):=ZK (Xq (ds:=[]) rfl (by decide))
 obtain⟨δ',h13,w12,w13,w14,w15,rfl⟩:=UD (γ:=Zm 12) (φ:=hB) Zt (λdn δ=>∃w12 w13 w14 w15,δ=HE W hs Y place picks n (some (Zt pt)) (some (Zt pf)) (some (nD sh)) (some (.lst (Z.map Zt))) (some (.lst ((dn.map (Zu place m)).map rowD))) w12 w13 w14 w15 none) Z (by
  rintro dn q rest δ e ⟨w12,w13,w14,w15,rfl⟩
  have hq:q∈Z:=by rw [<-e];simp
  have hdl:dn.length<=100:=by
   have:=congrArg List.length e;rw [List.length_append]at this;omega
  refine⟨HE W hs Y place picks n (some (Zt pt)) (some (Zt pf)) (some (nD sh)) (some (.lst (Z.map Zt))) (some (.lst ((dn.map (Zu place m)).map rowD))) (some (Zt q)) w13 w14 w15 none,rfl,?_⟩;obtain⟨u14,u15,y1⟩:=Zk2 (picks:=picks) (place:=place) h q (hZl q hq) (some (Zt pt)) (some (Zt pf)) (some (nD sh)) (some (.lst (Z.map Zt))) (some (.lst ((dn.map (Zu place m)).map rowD))) (some (Zt q)) w14 w15 none
  have x1:Zl 13 (ZS eNil) (HE W hs Y place picks n (some (Zt pt)) (some (Zt pf)) (some (nD sh)) (some (.lst (Z.map Zt))) (some (.lst ((dn.map (Zu place m)).map rowD))) (some (Zt q)) w13 w14 w15 none)=some (.nx (HE W hs Y place picks n (some (Zt pt)) (some (Zt pf)) (some (nD sh)) (some (.lst (Z.map Zt))) (some (.lst ((dn.map (Zu place m)).map rowD))) (some (Zt q)) (some (Zt [])) w14 w15 none)):=ZK (Xq (ds:=[]) rfl (by decide))
  refine⟨_,(Zn x1).trans ((Zn (Xe (Za7 rfl) y1)).trans (Us (xs:=(dn.map (Zu place m)).map rowD) (d:=rowD (Zu place m q)) rfl ((ZF (Zf (x:=Zt (Zu place m q)) rfl nil_of)).trans rfl) (by rw [List.length_map,List.length_map];omega))),some (Zt q),some (Zt (Zu place m q)),u14,u15,?_⟩;rw [show(dn.map (Zu place m)).map rowD++[rowD (Zu place m q)]=((dn++[q]).map (Zu place m)).map rowD by rw [List.map_append,List.map_append];rfl]
  rfl) Z [] (HE W hs Y place picks n (some (Zt pt)) (some (Zt pf)) (some (nD sh)) (some (.lst (Z.map Zt))) (some (.lst [])) none none none none none) rfl ⟨_,_,_,_,rfl⟩
 have hpw:place<W.length:=by rw [h.lw];exact hp
 have hset:(List.range m).map (λk=>if k=place then sh else W.getD k 0)=W.set place sh:=by
  apply List.ext_getElem
  · simp [h.lw]
  · intro i h1 h2
    have hi:i<W.length:=by simpa using h2
    rw [List.getElem_map,List.getElem_range,List.getElem_set]
    by_cases z:i=place
    · rw [if_pos z,if_pos z.symm]
    · rw [if_neg z,if_neg (λq=>z q.symm),List.getD_eq_getElem?_getD,List.getElem?_eq_getElem hi]
      rfl
 obtain⟨ds,eds⟩:∃ds,ds=(Z.map (Zu place m)).map rowD:=⟨_,rfl⟩
 rw [<-eds]at h13
 have t16:b16 (HE W hs Y place picks n (some (Zt pt)) (some (Zt pf)) (some (nD sh)) (some (.lst (Z.map Zt))) (some (.lst ds)) w12 w13 w14 w15 none)=some (.nx (HE W hs Y place picks n (some (Zt pt)) (some (Zt pf)) (some (nD sh)) (some (.lst (Z.map Zt))) (some (.lst ds)) w12 w13 w14 w15 (some (AD (W.set place sh))))):=by
  refine(ZK (Yp (δ0:=[none,some (nD place),some (WD W),some (nD sh)]) (xs:=(List.range m).map nD) ((Xy (j:=(m:Int)) (Zf ((ZF (Zf (x:=WD W) rfl nil_of)).trans ?_) nil_of) (by omega) (by omega)).trans (by rw [Int.toNat_natCast,X9])) rfl (ys:=((List.range m).map λk=>if k=place then sh else W.getD k 0).map nD) ?_ (by rw [List.length_map,List.length_map,List.length_range];omega))).trans (by rw [hset];rfl)
  · show some (D.int ((W.map nD).length:Int))=_
    rw [List.length_map,h.lw]
  · rw [List.map_map]
    refine YL (ε:=h16) nD _ (List.range m) λk hk=>⟨[some (nD k),some (nD place),some (WD W),some (nD sh)],rfl,?_⟩
    refine(ZjG (ZY ((Zi (x:=nD k) (y:=nD place) rfl rfl).trans (QB _ _)))).trans ?_;show _=some (nD (if k=place then sh else W.getD k 0))
    by_cases z:k=place
    · rw [decide_eq_true z,if_pos z]
      rfl
    · rw [decide_eq_false z,if_neg z]
      show eOp ixD (Za 2) (Za 0) [some (nD k),some (nD place),some (WD W),some (nD sh)]=_;exact(Zi (x:=WD W) (y:=nD k) rfl rfl).trans (X8 h (List.mem_range.mp hk))
 refine YF (δ:=[some (ZM W hs Y),some (nD place),some (AD picks),some (nD n),none,none,none,none,none,none,none,none,none,none,none,none,none]) rfl ?_;rw [Ze0,Zn (δ':=HE W hs Y place picks n none none none none none none none none none none) rfl,Zn t7,Zn t8,Zn t9,Zn t10,Zn t11,Zn t12,Zn (Xe (Za7 rfl) h13),Zn t16];have hhl:place<hs.length:=by rw [h.lh];exact hp
 refine Ys (VR (ds:=[HD (Qd hs place),WD (Yc n W Y place picks),YD (Yo Y m place picks)]) (Zf ?_ (Zf ?_ (Zf ?_ nil_of))) (by show 3<=1000;decide))
 · refine(Zi (x:=HD hs) (y:=.tup [.int (hs.getD place 0)]) rfl (VR (Zf ((Zi (x:=HD hs) (y:=nD place) rfl rfl).trans (ix_tup ?_)) nil_of) (by show 1<=1000;decide))).trans (Zk0 (by have:=h.m1;omega) (by have:=h.lh;omega) _)
   rw [List.getElem?_map,List.getD_eq_getElem?_getD,List.getElem?_eq_getElem hhl];rfl
 · rw [ZeZ hpw,<-esh]
   refine(ZF (Zf (x:=AD (W.set place sh++[W.getD place 0-sh])) ((Zi (x:=AD (W.set place sh)) (y:=.lst [nD (W.getD place 0-sh)]) rfl (Xq (ds:=[nD (W.getD place 0-sh)]) (Zf ((Zi ((Zi (x:=WD W) (y:=nD place) rfl rfl).trans (X8 h hp)) (y:=nD sh) rfl).trans ?_) nil_of) (by show 1<=1000;decide))).trans ((Qc ?_).trans ?_)) nil_of)).trans rfl
   · show some (D.int (((W.getD place 0:Nat):Int)-(sh:Int)))=_
     rw [show(((W.getD place 0:Nat):Int)-(sh:Int))=((W.getD place 0-sh:Nat):Int) by omega]
   · rw [List.length_map,List.length_set,h.lw]
     show m+1<=1000000;omega
   · show _=some (D.lst ((W.set place sh++[W.getD place 0-sh]).map nD))
     rw [List.map_append];rfl
 · rw [Zf0,<-eZ]
   unfold YD;rw [<-eds];exact(ZF (Zf (x:=.lst ds) rfl nil_of)).trans rfl
end
end K37
namespace K37
open DL L2
abbrev tl(A:Wb):D:=ZM A.1 A.2.1 A.2.2
theorem Zb8(A:Wb):VV [wb A]=some (tl A):=YF (δ:=[some (wb A)]) rfl (Ys (VR (Zf rfl (Zf rfl (Zf rfl nil_of))) (by show 3<=1000;decide)))
theorem ZaE{A:Wb}(hc:∀r∈A.2.2,∀p∈r,Xf p.1):PySem.SeqAt.shaped (toP (tl A))=true:=by
 have e1:=ZcN hc;have e2:=ZcO A.2.2
 have e3:PySem.PyData.canLayAll0 (Yi (A.1.map nD))=true:=by
  have:=Jf (A.1.map λa=>((a:Nat):Int))
  rwa [List.map_map]at this
 have e4:PySem.PyData.depthAll (Yi (A.1.map nD))=0:=by
  have:=Jg (A.1.map λa=>((a:Nat):Int))
  rwa [List.map_map]at this
 simp [PySem.SeqAt.shaped,tl,ZM,HD,WD,YD,toP,Yi,PySem.PyData.canLay0,PySem.PyData.canLayAll0,PySem.PyData.depth,PySem.PyData.depthAll,Jf,Jg,e1,e3,e4];omega
theorem ZgJ(W:List Nat):sumTD [WD W]=some (nD W.sum):=by
 unfold sumTD WD;dsimp only;rw [UF];dsimp only;rw [Za9]
def ky(p:Way):List Key:=[.inr (tx p.1),.inl (p.2:Int)]
theorem ZbE:∀r:List Way,Ur (r.map wyD)=some (r.map ky)
 | []=>rfl
 |p::r=>by
  rw [List.map_cons,Ur,ZbE r];rfl
theorem Zdm{r:List Way}(hn:r.Nodup)(hl:r.length<=76):lenSetD [rowD r]=some (nD r.length):=by
 have hk:(r.map ky).Nodup:=by
  refine List.pairwise_map.mpr (hn.imp λ{a b} z e=>z ?_);have e1:tx a.1=tx b.1:=Sum.inr.inj (List.cons.inj e).1;have e2:((a.2:Nat):Int)=b.2:=Sum.inl.inj (List.cons.inj (List.cons.inj e).2).1;exact Prod.ext (tx_inj.mp e1) (by omega)
 show(match Ur (r.map wyD)with
  |some ks=>if ks.Nodup/\ks.length<=76 then some (D.int ks.length)else none
  |none=>none)=_
 rw [ZbE];dsimp only;rw [if_pos ⟨hk,by rw [List.length_map];exact hl⟩,List.length_map]
noncomputable def lw1:DL.Env->Option Out:=(Zl 1 (eOp addX (eC (.int 1)) (eOp modW (ZB 2 Yx [] (Zb (Za 0) (Zb (eC (.int 0)) eNil))) (eC (.int 6)))))
noncomputable def lw2:DL.Env->Option Out:=(Zl 2 (ZB 3 Qx [] (Zb (Za 0) (Zb (eC (.int 2)) (Zb (Za 1) eNil)))))
noncomputable def lw4:DL.Env->Option Out:=(Zl 6 (ZB 2 Jp [] (Zb (Za 0) (Zb (Za 2) eNil))))
noncomputable def lw5:DL.Env->Option Out:=(Zl 7 (ZB 1 Jl [] (Zb (Za 6) eNil)))
noncomputable def lT6:DL.Env->Option Bool:=(xB (eOp neD (ZB 1 VV [] (Zb (Za 6) eNil)) (Za 2)))
noncomputable def lO:DL.Env->Option D:=(eCB ZO (Zb (ZC (ZH (Za 3)) (Zm 0) (λ_=>some true) (eC (.int 1)) 1 []) eNil))
noncomputable def lw6:DL.Env->Option Out:=(sIf (xOr (xB (eOp neD (ZB 1 VV [] (Zb (Za 7) eNil)) (Yl (Zb (Za 3) (Zb lO (Zb (Za 5) eNil)))))) lT6) (ZE (eC (.bl false))) sNext)
noncomputable def lw7:DL.Env->Option Out:=(Zl 8 (ZB 2 Qz [] (Zb (Za 4) (Zb (Za 5) eNil))))
noncomputable def lw8:DL.Env->Option Out:=(sIf (xB (UV (Za 8))) (ZE (eOp eqD (eCB maxQD (Zb (Za 4) eNil)) (eCB minQD (Zb (Za 4) eNil)))) sNext)
noncomputable def lw9:DL.Env->Option Out:=(Zl 9 (ZB 4 Js [] (Zb (Za 4) (Zb (Za 5) (Zb (Za 8) (Zb (Za 1) eNil))))))
noncomputable def Zlv:DL.Env->Option Out:=(Zl 10 (eCB YJ (Zb (Za 9) eNil)))
noncomputable def Zlw:DL.Env->Option Out:=(Zl 11 (ZB 4 Qw [] (Zb (Za 6) (Zb (Za 1) (Zb (Za 8) (Zb (Za 10) eNil))))))
noncomputable def Zlx:DL.Env->Option Out:=(sIf (xOr (xB (eOp neD (Za 10) (Za 9))) (xOr lT6 (Vg (xB (X4 Ji (Za 11)))))) (ZE (eC (.bl false))) sNext)
noncomputable def Zly:DL.Env->Option Out:=(Zl 12 (ZB 4 QA [] (Zb (Za 2) (Zb (Za 8) (Zb (Za 9) (Zb (Za 1) eNil))))))
noncomputable def Zlz:DL.Env->Option Out:=(sIf (xOr (xB (eOp neD (ZB 1 VV [] (Zb (Za 11) eNil)) (Za 12))) (xB (eOp neD (XM "many" Vk (Za 11) eNil) (eOp addX (eCB lenD (Zb (Za 3) eNil)) (eC (.int 1)))))) (ZE (eC (.bl false))) sNext)
noncomputable def lB:DL.Env->Option Out:=(sIf (xB (eOp neD (eCB lenSetD (Zb (Za 13) eNil)) (eCB lenD (Zb (Za 13) eNil)))) (ZE (eC (.bl false))) sNext)
noncomputable def ZlA:DL.Env->Option Out:=(ZE (Vh (ZB 2 Jq [] (Zb (Za 12) (Zb (Za 1) eNil))) (Vh (ZB 1 Jr [] (Zb (Za 12) eNil)) (eOp eqD (eCB sumTD (Zb (eOp ixD (Za 12) (eC (.int 1))) eNil)) (eCB sumTD (Zb (Za 4) eNil))))))
theorem ZjH:f_QT=Zg lw1 (Zg lw2 (Zg (Uq (Y4 3 (ZW 3 (ZW 4 (ZW 5 gsNil)))) (Za 2)) (Zg lw4 (Zg lw5 (Zg lw6 (Zg lw7 (Zg lw8 (Zg lw9 (Zg Zlv (Zg Zlw (Zg Zlx (Zg Zly (Zg Zlz (Zg (Z5 (ZH (Yg Xz "ways" (Za 11))) (Zm 13) lB) ZlA)))))))))))))):=rfl
abbrev LX(ns:List Int)(n:Nat)(A:Wb)(v6 v7 v8 v9 v10 v11 v12 v13:Option D):DL.Env:=[some (.lst (ns.map D.int)),some (nD n),some (tl A),some (HD A.2.1),some (WD A.1),some (YD A.2.2),v6,v7,v8,v9,v10,v11,v12,v13]
theorem ZgK{ns:List Int}{n:Nat}{A:Wb}(hc:∀r∈A.2.2,∀p∈r,Xf p.1)(v7 v8 v9 v10 v11 v12 v13:Option D):lT6 (LX ns n A (some (wb A)) v7 v8 v9 v10 v11 v12 v13)=some false:=
 ZY ((Zi (x:=tl A) (y:=tl A) ((Yh (n:=1) (Zf (x:=wb A) rfl nil_of) rfl).trans (Zb8 A)) rfl).trans (Je rfl (ZaE hc)))
theorem all_true(ns:List Int)(hl:ns.length<=63):Jt [.lst (ns.map D.int)]=some (.bl true):=by
 obtain⟨a,ea,ha⟩:=Uv (ns.getD 0 0) (m:=6) (by decide);have hn1:1<=1+a:=by omega
 have hn6:1+a<=6:=by omega
 obtain⟨m,W,hs,Y,h0,h30,hw⟩:=ZjA hl hn1 hn6;obtain⟨A,eA⟩:∃A:Wb,A=(W,hs,Y):=⟨_,rfl⟩
 have h:Ok (1+a) m A.1 A.2.1 A.2.2:=by rw [eA];exact h0
 have hw:Qx [.lst (ns.map D.int),nD 2,nD (1+a)]=some (tl A):=by rw [eA];exact hw
 have h30:∀r∈A.2.2,r.length<=30:=by rw [eA];exact h30
 have hm5:=h.m5;have hc:∀r∈A.2.2,∀p∈r,Xf p.1:=λr hr p hp=>(h.cd r hr p hp).2
 refine YF (δ:=[some (.lst (ns.map D.int)),none,none,none,none,none,none,none,none,none,none,none,none,none]) rfl ?_;rw [ZjH]
 have t1:lw1 [some (.lst (ns.map D.int)),none,none,none,none,none,none,none,none,none,none,none,none,none]=some (.nx [some (.lst (ns.map D.int)),some (nD (1+a)),none,none,none,none,none,none,none,none,none,none,none,none]):=
  ZK ((Zi (x:=.int 1) (y:=nD a) rfl ((Zi ((Yh (n:=2) (Zf rfl (Zf (x:=nD 0) rfl nil_of)) rfl).trans (Qa ns 0)) rfl).trans ea)).trans (Zb4 a))
 have t2:lw2 [some (.lst (ns.map D.int)),some (nD (1+a)),none,none,none,none,none,none,none,none,none,none,none,none]=some (.nx [some (.lst (ns.map D.int)),some (nD (1+a)),some (tl A),none,none,none,none,none,none,none,none,none,none,none]):=
  ZK ((Yh (n:=3) (ds:=[.lst (ns.map D.int),nD 2,nD (1+a)]) (Zf rfl (Zf rfl (Zf rfl nil_of))) rfl).trans hw)
 have t4:lw4 (LX ns (1+a) A none none none none none none none none)=some (.nx (LX ns (1+a) A (some (wb A)) none none none none none none none)):=
  ZK ((Yh (n:=2) (Zf rfl (Zf rfl nil_of)) rfl).trans (ZeT h ns))
 obtain⟨U,eU⟩:∃U:Wb,U=(JH m,A.2.1,A.2.2):=⟨_,rfl⟩
 have hcU:∀r∈U.2.2,∀p∈r,Xf p.1:=by rw [eU];exact hc
 have t5:lw5 (LX ns (1+a) A (some (wb A)) none none none none none none none)=some (.nx (LX ns (1+a) A (some (wb A)) (some (wb U)) none none none none none none)):=
  ZK ((Yh (n:=1) (Zf (x:=wb A) rfl nil_of) rfl).trans ((ZeW h).trans (by rw [eU];rfl)))
 have eO:lO (LX ns (1+a) A (some (wb A)) (some (wb U)) none none none none none none)=some (WD U.1):=by
  refine(ZF (Zf (Yp (δ0:=[none]) (xs:=A.2.1.map D.int) rfl rfl (YL (ε:=eC (.int 1)) D.int (λ_=>D.int 1) A.2.1 λx _=>⟨[some (.int x)],rfl,rfl⟩) (by rw [List.length_map,h.lh];omega)) nil_of)).trans ?_;show some (D.tup (A.2.1.map λ_=>D.int 1))=_;rw [eU];show _=some (D.tup ((List.replicate m 1).map nD));rw [List.map_const',h.lh,List.map_replicate];rfl
 have t6:lw6 (LX ns (1+a) A (some (wb A)) (some (wb U)) none none none none none none)=some (.nx (LX ns (1+a) A (some (wb A)) (some (wb U)) none none none none none none)):=by
  refine(YK (Jb (ZY ((Zi (x:=tl U) (y:=tl U) ((Yh (n:=1) (Zf (x:=wb U) rfl nil_of) rfl).trans (Zb8 U)) ((VR (Zf rfl (Zf eO (Zf rfl nil_of))) (by show 3<=1000;decide)).trans ?_)).trans (Je rfl (ZaE hcU)))) (ZgK hc _ _ _ _ _ _ _))).trans rfl;rw [eU]
 obtain⟨M,mx,hM,hx⟩:=Zjr h;obtain⟨L,mn,hL,hmn⟩:=Zjs h;rcases ZfW h mx hx with⟨e7,hall⟩|⟨place,hp,e7,hpw,hls⟩
 ·
  have hLM:M=L:=by
   obtain⟨i,hi,ei⟩:=List.mem_iff_getElem.mp hM;obtain⟨j,hj,ej⟩:=List.mem_iff_getElem.mp hL;rw [h.lw]at hi hj;have g1:A.1.getD i 0=M:=by rw [List.getD_eq_getElem?_getD,List.getElem?_eq_getElem (by rw [h.lw];exact hi),ei];rfl
   have g2:A.1.getD j 0=L:=by rw [List.getD_eq_getElem?_getD,List.getElem?_eq_getElem (by rw [h.lw];exact hj),ej];rfl
   have:=h.st (λk=>A.1.getD k 0=M) (λk hk e p hp=>Nat.le_antisymm (hx _ (h.wt (h.tg _ (h.row hk).2 p hp)).2) (hall k hk e p hp)) i hi g1 j hj;exact this.symm.trans g2
  have t7:lw7 (LX ns (1+a) A (some (wb A)) (some (wb U)) none none none none none none)=some (.nx (LX ns (1+a) A (some (wb A)) (some (wb U)) (some .non) none none none none none)):=
   ZK ((Yh (n:=2) (ds:=[WD A.1,YD A.2.2]) (Zf rfl (Zf rfl nil_of)) rfl).trans e7)
  have t8:lw8 (LX ns (1+a) A (some (wb A)) (some (wb U)) (some .non) none none none none none)=some (.rt (.bl true)):=
   (X5 (ZY rfl)).trans (Ys ((Zi ((ZF (Zf (x:=WD A.1) rfl nil_of)).trans mx) ((ZF (Zf (x:=WD A.1) rfl nil_of)).trans mn)).trans ((UI M L).trans (by rw [decide_eq_true hLM]))))
  rw [Zn t1,Zn t2,Zn (δ':=LX ns (1+a) A none none none none none none none none) rfl,Zn t4,Zn t5,Zn t6,Zn t7];exact U8 t8
 · obtain⟨picks,e9,G⟩:=ZfZ h hx hp hpw hls
   have s3:=(Zg4 G).2.2;have hle:shr (1+a) A.1 A.2.2 place picks<=A.1.getD place 0:=by omega
   have e11:=ZfQ h hp hle;have h':=ZfU h hp hpw G;have e13:=Ze1 h hp hpw G;have hsum:=ZgI (picks:=picks) h hp hle
   have hrows:∀r∈Yo A.2.2 m place picks,r.length<=76:=λr hr=>by
    obtain⟨r0,y,hy,hsb,rfl⟩:=JG h hp r hr;have i1:=QE place m r0;have i2:=hsb.length_le;have i3:=h30 y hy;omega
   obtain⟨B,eB⟩:∃B:Wb,B=(Yc (1+a) A.1 A.2.2 place picks,Qd A.2.1 place,Yo A.2.2 m place picks):=⟨_,rfl⟩
   have h':Ok (1+a) (m+1) B.1 B.2.1 B.2.2:=by rw [eB];exact h'
   have e11:Qw [wb A,nD (1+a),nD place,AD picks]=some (wb B):=by rw [eB];exact e11
   have e13:QA [tl A,nD place,AD picks,nD (1+a)]=some (tl B):=by rw [eB];exact e13
   have hsum:B.1.sum=A.1.sum:=by rw [eB];exact hsum
   have hrows:∀r∈B.2.2,r.length<=76:=by rw [eB];exact hrows
   have hcB:∀r∈B.2.2,∀p∈r,Xf p.1:=λr hr p hp=>(h'.cd r hr p hp).2
   have t7:lw7 (LX ns (1+a) A (some (wb A)) (some (wb U)) none none none none none none)=some (.nx (LX ns (1+a) A (some (wb A)) (some (wb U)) (some (nD place)) none none none none none)):=
    ZK ((Yh (n:=2) (ds:=[WD A.1,YD A.2.2]) (Zf rfl (Zf rfl nil_of)) rfl).trans e7)
   have t8:lw8 (LX ns (1+a) A (some (wb A)) (some (wb U)) (some (nD place)) none none none none none)=some (.nx (LX ns (1+a) A (some (wb A)) (some (wb U)) (some (nD place)) none none none none none)):=(YK (ZY rfl)).trans rfl
   have t9:lw9 (LX ns (1+a) A (some (wb A)) (some (wb U)) (some (nD place)) none none none none none)=some (.nx (LX ns (1+a) A (some (wb A)) (some (wb U)) (some (nD place)) (some (AD picks)) none none none none)):=
    ZK ((Yh (n:=4) (ds:=[WD A.1,YD A.2.2,nD place,nD (1+a)]) (Zf rfl (Zf rfl (Zf rfl (Zf rfl nil_of)))) rfl).trans e9)
   have t10:Zlv (LX ns (1+a) A (some (wb A)) (some (wb U)) (some (nD place)) (some (AD picks)) none none none none)=some (.nx (LX ns (1+a) A (some (wb A)) (some (wb U)) (some (nD place)) (some (AD picks)) (some (AD picks)) none none none)):=ZK ((ZF (Zf (x:=AD picks) rfl nil_of)).trans rfl)
   have t11:Zlw (LX ns (1+a) A (some (wb A)) (some (wb U)) (some (nD place)) (some (AD picks)) (some (AD picks)) none none none)=some (.nx (LX ns (1+a) A (some (wb A)) (some (wb U)) (some (nD place)) (some (AD picks)) (some (AD picks)) (some (wb B)) none none)):=
    ZK ((Yh (n:=4) (ds:=[wb A,nD (1+a),nD place,AD picks]) (Zf rfl (Zf rfl (Zf rfl (Zf rfl nil_of)))) rfl).trans e11)
   have t12:Zlx (LX ns (1+a) A (some (wb A)) (some (wb U)) (some (nD place)) (some (AD picks)) (some (AD picks)) (some (wb B)) none none)=some (.nx (LX ns (1+a) A (some (wb A)) (some (wb U)) (some (nD place)) (some (AD picks)) (some (AD picks)) (some (wb B)) none none)):=
    (YK (Jb (ZY ((Zi (x:=AD picks) (y:=AD picks) rfl rfl).trans (Je rfl (ZeS picks)))) (Jb (ZgK hc _ _ _ _ _ _ _) (Zd8 (b:=true) (ZY (Jd (d:=wb B) rfl rfl)))))).trans rfl
   have t13:Zly (LX ns (1+a) A (some (wb A)) (some (wb U)) (some (nD place)) (some (AD picks)) (some (AD picks)) (some (wb B)) none none)=some (.nx (LX ns (1+a) A (some (wb A)) (some (wb U)) (some (nD place)) (some (AD picks)) (some (AD picks)) (some (wb B)) (some (tl B)) none)):=
    ZK ((Yh (n:=4) (ds:=[tl A,nD place,AD picks,nD (1+a)]) (Zf rfl (Zf rfl (Zf rfl (Zf rfl nil_of)))) rfl).trans e13)
   have t14:Zlz (LX ns (1+a) A (some (wb A)) (some (wb U)) (some (nD place)) (some (AD picks)) (some (AD picks)) (some (wb B)) (some (tl B)) none)=some (.nx (LX ns (1+a) A (some (wb A)) (some (wb U)) (some (nD place)) (some (AD picks)) (some (AD picks)) (some (wb B)) (some (tl B)) none)):=by
    refine(YK (Jb (ZY ((Zi (x:=tl B) (y:=tl B) ((Yh (n:=1) (Zf (x:=wb B) rfl nil_of) rfl).trans (Zb8 B)) rfl).trans (Je rfl (ZaE hcB)))) (ZY ((Zi (x:=nD (m+1)) (y:=nD (m+1)) ((ZaB (W:=B.1) (hs:=B.2.1) (Y:=B.2.2) rfl).trans (Zb2 h')) ((Zi (x:=nD m) (y:=.int 1) ((ZF (Zf (x:=HD A.2.1) rfl nil_of)).trans ?_) rfl).trans ((add_int _ _).trans ?_))).trans ((QB _ _).trans (by rw [decide_eq_true rfl];rfl)))))).trans rfl
    · show some (D.int ((A.2.1.map D.int).length:Int))=_
      rw [List.length_map,h.lh]
    · rw [show((m:Int)+1)=((m+1:Nat):Int) by push_cast;rfl]
   obtain⟨δ',h15,v13,rfl⟩:=Qu (γ:=Zm 13) (φ:=lB) (λδ=>∃v,δ=LX ns (1+a) A (some (wb A)) (some (wb U)) (some (nD place)) (some (AD picks)) (some (AD picks)) (some (wb B)) (some (tl B)) v) (B.2.2.map rowD) (LX ns (1+a) A (some (wb A)) (some (wb U)) (some (nD place)) (some (AD picks)) (some (AD picks)) (some (wb B)) (some (tl B)) none) ⟨_,rfl⟩ (by
    rintro x hx δ ⟨v,rfl⟩
    obtain⟨r,hr,rfl⟩:=List.mem_map.mp hx;refine⟨LX ns (1+a) A (some (wb A)) (some (wb U)) (some (nD place)) (some (AD picks)) (some (AD picks)) (some (wb B)) (some (tl B)) (some (rowD r)),rfl,LX ns (1+a) A (some (wb A)) (some (wb U)) (some (nD place)) (some (AD picks)) (some (AD picks)) (some (wb B)) (some (tl B)) (some (rowD r)),?_,_,rfl⟩;refine(YK (ZY ((Zi (x:=nD r.length) (y:=nD r.length) ((ZF (Zf (x:=rowD r) rfl nil_of)).trans (Zdm (h'.nd r hr) (hrows r hr))) ((ZF (Zf (x:=rowD r) rfl nil_of)).trans ?_)).trans ((QB _ _).trans (by rw [decide_eq_true rfl];rfl))))).trans rfl
    show some (D.int ((r.map wyD).length:Int))=_;rw [List.length_map])
   have t16:ZlA (LX ns (1+a) A (some (wb A)) (some (wb U)) (some (nD place)) (some (AD picks)) (some (AD picks)) (some (wb B)) (some (tl B)) v13)=some (.rt (.bl true)):=
    Ys (Zd9 ((Yh (n:=2) (Zf rfl (Zf rfl nil_of)) rfl).trans (ZfJ h')) (Zd9 ((Yh (n:=1) (Zf rfl nil_of) rfl).trans (ZhV h')) ((Zi ((ZF (Zf (x:=WD B.1) ((Zi (x:=tl B) (y:=.int 1) rfl rfl).trans rfl) nil_of)).trans (ZgJ B.1)) ((ZF (Zf (x:=WD A.1) rfl nil_of)).trans (ZgJ A.1))).trans ((UI _ _).trans (by rw [decide_eq_true hsum])))))
   rw [Zn t1,Zn t2,Zn (δ':=LX ns (1+a) A none none none none none none none none) rfl,Zn t4,Zn t5,Zn t6,Zn t7,Zn t8,Zn t9,Zn t10,Zn t11,Zn t12,Zn t13,Zn t14,Zn (Xe (xs:=B.2.2.map rowD) rfl h15)];exact t16
end K37
namespace K37
open PySem PySem.Spec L2 DL
def JL(K:PySem.W.Frag):Sp:=λvs H Q _=>∃(a:Addr) (ns:List Int),vs=[.ref a]/\SqL K H a (ns.map V.int)/\ns.length<=63/\∀H',Q (.bl true) H'
theorem ZjI(hall:∀ns:List Int,ns.length<=63->Jt [.lst (ns.map D.int)]=some (.bl true)){P:Program}{w:World}{K:PySem.W.Frag}{mg:Str->Option Value}{base:Heap}{t:Adr}(T:Txt K mg t):FnOk P w K mg base CX0 5 t.a_QT t.d_QT ["script"] (JL K):=
 (ZkP T).imp λvs H Q E ⟨a,ns,hv,hr,hl,q⟩=>by
   subst hv;refine⟨λ_=>False,[.lst (ns.map D.int)],.bl true,λ_ z=>z.elim,.cons ?_ .nil,rfl,hall ns hl,λv H' _ r => ?_⟩
   · unfold Rep
     refine⟨a,_,rfl,λz=>z.elim,hr,?_⟩;have:=RepL.of_vals (cA:=⟨t.c,K⟩) (av:=λ_=>False) (H:=H) (xs:=ns.map D.int) (by rw [List.all_map];exact List.all_eq_true.mpr λ_ _=>rfl);rw [List.map_map]at this;exact this
   · cases(show v=_ from r)
     exact q H'
theorem all_mk (hall:∀ns:List Int,ns.length<=63->Jt [.lst (ns.map D.int)]=some (.bl true)) {l:PySem.W.OpenLaw} {w:World} {K:PySem.W.Frag} {h:Heap} {mg:Str->Option Value} {fa:Addr} (X:K.In h) (G:h.Ns mainGlobals mg) (hfa:mg "law" = some (.ref fa))
 {c_Web:Addr}
 {f0:Addr} {od0 an0:Option Addr} {sl0:Array (Option Value)} {oc0 kV0 dc0 pm0 cd0 ct0:Value}
 {f1:Addr} {od1 an1:Option Addr} {sl1:Array (Option Value)} {oc1 kV1 dc1 pm1 cd1 ct1:Value}
 {f2:Addr} {od2 an2:Option Addr} {sl2:Array (Option Value)} {oc2 kV2 dc2 pm2 cd2 ct2:Value}
 {f3:Addr} {od3 an3:Option Addr} {sl3:Array (Option Value)} {oc3 kV3 dc3 pm3 cd3 ct3:Value}
 {f4:Addr} {od4 an4:Option Addr} {sl4:Array (Option Value)} {oc4 kV4 dc4 pm4 cd4 ct4:Value}
 {f5:Addr} {od5 an5:Option Addr} {sl5:Array (Option Value)} {oc5 kV5 dc5 pm5 cd5 ct5:Value}
 {f6:Addr} {od6 an6:Option Addr} {sl6:Array (Option Value)} {oc6 kV6 dc6 pm6 cd6 ct6:Value}
 {f7:Addr} {od7 an7:Option Addr} {sl7:Array (Option Value)} {oc7 kV7 dc7 pm7 cd7 ct7:Value}
 {f8:Addr} {od8 an8:Option Addr} {sl8:Array (Option Value)} {oc8 kV8 dc8 pm8 cd8 ct8:Value}
 {f9:Addr} {od9 an9:Option Addr} {sl9:Array (Option Value)} {oc9 kV9 dc9 pm9 cd9 ct9:Value}
 {f10:Addr} {od10 an10:Option Addr} {sl10:Array (Option Value)} {oc10 kV10 dc10 pm10 cd10 ct10:Value}
 {f11:Addr} {od11 an11:Option Addr} {sl11:Array (Option Value)} {oc11 kV11 dc11 pm11 cd11 ct11:Value}
 {f12:Addr} {od12 an12:Option Addr} {sl12:Array (Option Value)} {oc12 kV12 dc12 pm12 cd12 ct12:Value}
 {f13:Addr} {od13 an13:Option Addr} {sl13:Array (Option Value)} {oc13 kV13 dc13 pm13 cd13 ct13:Value}
 {f14:Addr} {od14 an14:Option Addr} {sl14:Array (Option Value)} {oc14 kV14 dc14 pm14 cd14 ct14:Value}
 {f15:Addr} {od15 an15:Option Addr} {sl15:Array (Option Value)} {oc15 kV15 dc15 pm15 cd15 ct15:Value}
 {f16:Addr} {od16 an16:Option Addr} {sl16:Array (Option Value)} {oc16 kV16 dc16 pm16 cd16 ct16:Value}
 {f17:Addr} {od17 an17:Option Addr} {sl17:Array (Option Value)} {oc17 kV17 dc17 pm17 cd17 ct17:Value}
 {f18:Addr} {od18 an18:Option Addr} {sl18:Array (Option Value)} {oc18 kV18 dc18 pm18 cd18 ct18:Value}
 {f19:Addr} {od19 an19:Option Addr} {sl19:Array (Option Value)} {oc19 kV19 dc19 pm19 cd19 ct19:Value}
 (Zmp:nsIn K mainGlobals "Web" = some (some (.ref c_Web)))
 (a0:nsIn K mainGlobals "kept_ways" = some (some (.ref f0)))
 (l0:K.lookup f0=some ⟨oc0,od0,.func (fnOf "kept_ways" "kept_ways" (defArgs X6) (defBody X6) (defScope X6) .none kV0 dc0 pm0 an0 cd0 ct0),sl0⟩)
 (c0:codeIn K cd0 "kept_ways" = true)
 (k0:keepIn K (.ref f0)=true)
 (a1:PySem.W.findIn K (.ref c_Web) "__init__" = some (some (.ref f1)))
 (l1:K.lookup f1=some ⟨oc1,od1,.func (fnOf "__init__" "Web.__init__" (defArgs Vl) (defBody Vl) (defScope Vl) .none kV1 dc1 pm1 an1 cd1 ct1),sl1⟩)
 (c1:codeIn K cd1 "Web.__init__" = true)
 (k1:keepIn K (.ref f1)=true)
 (a2:PySem.W.findIn K (.ref c_Web) "many" = some (some (.ref f2)))
 (l2:K.lookup f2=some ⟨oc2,od2,.func (fnOf "many" "Web.many" (defArgs VW) (defBody VW) (defScope VW) .none kV2 dc2 pm2 an2 cd2 ct2),sl2⟩)
 (c2:codeIn K cd2 "Web.many" = true)
 (k2:keepIn K (.ref f2)=true)
 (a3:nsIn K mainGlobals "doubled" = some (some (.ref f3)))
 (l3:K.lookup f3=some ⟨oc3,od3,.func (fnOf "doubled" "doubled" (defArgs Vm) (defBody Vm) (defScope Vm) .none kV3 dc3 pm3 an3 cd3 ct3),sl3⟩)
 (c3:codeIn K cd3 "doubled" = true)
 (k3:keepIn K (.ref f3)=true)
 (a4:nsIn K mainGlobals "split" = some (some (.ref f4)))
 (l4:K.lookup f4=some ⟨oc4,od4,.func (fnOf "split" "split" (defArgs XA) (defBody XA) (defScope XA) .none kV4 dc4 pm4 an4 cd4 ct4),sl4⟩)
 (c4:codeIn K cd4 "split" = true)
 (k4:keepIn K (.ref f4)=true)
 (a5:nsIn K mainGlobals "evened" = some (some (.ref f5)))
 (l5:K.lookup f5=some ⟨oc5,od5,.func (fnOf "evened" "evened" (defArgs VY) (defBody VY) (defScope VY) .none kV5 dc5 pm5 an5 cd5 ct5),sl5⟩)
 (c5:codeIn K cd5 "evened" = true)
 (k5:keepIn K (.ref f5)=true)
 (a6:nsIn K mainGlobals "_law_cell_at" = some (some (.ref f6)))
 (l6:K.lookup f6=some ⟨oc6,od6,.func (fnOf "_law_cell_at" "_law_cell_at" (defArgs VZ) (defBody VZ) (defScope VZ) .none kV6 dc6 pm6 an6 cd6 ct6),sl6⟩)
 (c6:codeIn K cd6 "_law_cell_at" = true)
 (k6:keepIn K (.ref f6)=true)
 (a7:nsIn K mainGlobals "_law_block" = some (some (.ref f7)))
 (l7:K.lookup f7=some ⟨oc7,od7,.func (fnOf "_law_block" "_law_block" (defArgs V0) (defBody V0) (defScope V0) .none kV7 dc7 pm7 an7 cd7 ct7),sl7⟩)
 (c7:codeIn K cd7 "_law_block" = true)
 (k7:keepIn K (.ref f7)=true)
 (a8:nsIn K mainGlobals "_law_borne" = some (some (.ref f8)))
 (l8:K.lookup f8=some ⟨oc8,od8,.func (fnOf "_law_borne" "_law_borne" (defArgs Vn) (defBody Vn) (defScope Vn) .none kV8 dc8 pm8 an8 cd8 ct8),sl8⟩)
 (c8:codeIn K cd8 "_law_borne" = true)
 (k8:keepIn K (.ref f8)=true)
 (a9:nsIn K mainGlobals "_law_named" = some (some (.ref f9)))
 (l9:K.lookup f9=some ⟨oc9,od9,.func (fnOf "_law_named" "_law_named" (defArgs V1) (defBody V1) (defScope V1) .none kV9 dc9 pm9 an9 cd9 ct9),sl9⟩)
 (c9:codeIn K cd9 "_law_named" = true)
 (k9:keepIn K (.ref f9)=true)
 (a10:nsIn K mainGlobals "_law_web" = some (some (.ref f10)))
 (l10:K.lookup f10=some ⟨oc10,od10,.func (fnOf "_law_web" "_law_web" (defArgs XT) (defBody XT) (defScope XT) .none kV10 dc10 pm10 an10 cd10 ct10),sl10⟩)
 (c10:codeIn K cd10 "_law_web" = true)
 (k10:keepIn K (.ref f10)=true)
 (a11:nsIn K mainGlobals "_law_handed" = some (some (.ref f11)))
 (l11:K.lookup f11=some ⟨oc11,od11,.func (fnOf "_law_handed" "_law_handed" (defArgs Vo) (defBody Vo) (defScope Vo) .none kV11 dc11 pm11 an11 cd11 ct11),sl11⟩)
 (c11:codeIn K cd11 "_law_handed" = true)
 (k11:keepIn K (.ref f11)=true)
 (a12:nsIn K mainGlobals "_law_bears" = some (some (.ref f12)))
 (l12:K.lookup f12=some ⟨oc12,od12,.func (fnOf "_law_bears" "_law_bears" (defArgs Vp) (defBody Vp) (defScope Vp) .none kV12 dc12 pm12 an12 cd12 ct12),sl12⟩)
 (c12:codeIn K cd12 "_law_bears" = true)
 (k12:keepIn K (.ref f12)=true)
 (a13:nsIn K mainGlobals "_law_come_to" = some (some (.ref f13)))
 (l13:K.lookup f13=some ⟨oc13,od13,.func (fnOf "_law_come_to" "_law_come_to" (defArgs V2) (defBody V2) (defScope V2) .none kV13 dc13 pm13 an13 cd13 ct13),sl13⟩)
 (c13:codeIn K cd13 "_law_come_to" = true)
 (k13:keepIn K (.ref f13)=true)
 (a14:nsIn K mainGlobals "_law_tied" = some (some (.ref f14)))
 (l14:K.lookup f14=some ⟨oc14,od14,.func (fnOf "_law_tied" "_law_tied" (defArgs V3) (defBody V3) (defScope V3) .none kV14 dc14 pm14 an14 cd14 ct14),sl14⟩)
 (c14:codeIn K cd14 "_law_tied" = true)
 (k14:keepIn K (.ref f14)=true)
 (a15:nsIn K mainGlobals "_law_picks" = some (some (.ref f15)))
 (l15:K.lookup f15=some ⟨oc15,od15,.func (fnOf "_law_picks" "_law_picks" (defArgs X7) (defBody X7) (defScope X7) .none kV15 dc15 pm15 an15 cd15 ct15),sl15⟩)
 (c15:codeIn K cd15 "_law_picks" = true)
 (k15:keepIn K (.ref f15)=true)
 (a16:nsIn K mainGlobals "_law_place" = some (some (.ref f16)))
 (l16:K.lookup f16=some ⟨oc16,od16,.func (fnOf "_law_place" "_law_place" (defArgs Vq) (defBody Vq) (defScope Vq) .none kV16 dc16 pm16 an16 cd16 ct16),sl16⟩)
 (c16:codeIn K cd16 "_law_place" = true)
 (k16:keepIn K (.ref f16)=true)
 (a17:nsIn K mainGlobals "_law_behind" = some (some (.ref f17)))
 (l17:K.lookup f17=some ⟨oc17,od17,.func (fnOf "_law_behind" "_law_behind" (defArgs Xr) (defBody Xr) (defScope Xr) .none kV17 dc17 pm17 an17 cd17 ct17),sl17⟩)
 (c17:codeIn K cd17 "_law_behind" = true)
 (k17:keepIn K (.ref f17)=true)
 (a18:nsIn K mainGlobals "_law_told" = some (some (.ref f18)))
 (l18:K.lookup f18=some ⟨oc18,od18,.func (fnOf "_law_told" "_law_told" (defArgs V4) (defBody V4) (defScope V4) .none kV18 dc18 pm18 an18 cd18 ct18),sl18⟩)
 (c18:codeIn K cd18 "_law_told" = true)
 (k18:keepIn K (.ref f18)=true)
 (a19:nsIn K mainGlobals "law" = some (some (.ref f19)))
 (l19:K.lookup f19=some ⟨oc19,od19,.func (fnOf "law" "law" (defArgs XB) (defBody XB) (defScope XB) .none kV19 dc19 pm19 an19 cd19 ct19),sl19⟩)
 (c19:codeIn K cd19 "law" = true)
 (k19:keepIn K (.ref f19)=true)
 (Zmq:nsIn K mainGlobals "all" = some none)
 (Zmr:nsIn K mainGlobals "enumerate" = some none)
 (Zms:nsIn K mainGlobals "isinstance" = some none)
 (Zmt:nsIn K mainGlobals "len" = some none)
 (Zmu:nsIn K mainGlobals "list" = some none)
 (Zmv:nsIn K mainGlobals "max" = some none)
 (Zmw:nsIn K mainGlobals "min" = some none)
 (Zmx:nsIn K mainGlobals "range" = some none)
 (Zmy:nsIn K mainGlobals "reversed" = some none)
 (Zmz:nsIn K mainGlobals "set" = some none)
 (ZmA:nsIn K mainGlobals "sorted" = some none)
 (ZmB:nsIn K mainGlobals "sum" = some none)
 (ZmC:nsIn K mainGlobals "tuple" = some none)
 (Zmm:PySem.W.plainGet K c_Web Str.empty=true)
 (ZlX:PySem.W.hasDictIn K c_Web=true)
 (Zmn:PySem.W.plainOver K c_Web=true)
 (Zmo:PySem.W.findIn K (.ref c_Web) "__setattr__" = some (some (.builtin "object.__setattr__")))
 (ZlW:PySem.W.findIn K (.ref c_Web) "__class__" = some (some (.builtin "object.__class__")))
 (ZlY:PySem.W.mroIn K c_Web (.type "object")=some true)
 (Zmh:PySem.W.makesIn K c_Web=true)
 (Zmd:keepIn K (.ref c_Web)=true)
 (Zmg:PySem.W.findIn K (.ref c_Web) "__init__" = some (some (.ref f1)))
 (Zmf:isFn K (.ref f1)=true)
 (hn_:PySem.W.specialIn K (.builtin "object.__class__") "__get__" = some (some (.builtin "getset_descriptor.__get__")))
 (htk_:PySem.W.takesIn K (.builtin "object.__class__")=some true)
 (Zmj:PySem.W.findIn K (.ref c_Web) "homes" = some none)
 (Zmk:PySem.W.findIn K (.ref c_Web) "ways" = some none)
 (Zml:PySem.W.findIn K (.ref c_Web) "weights" = some none)
 (Zme:PySem.W.findIn K (.ref c_Web) "many" = some (some (.ref f2)))
 (Zmi:isFn K (.ref f2)=true)
 (ZlZ:kitOne K (.type "NoneType") (.ref c_Web)=some false)
 (Zl3:kitOne K (.type "bool") (.ref c_Web)=some false)
 (Zl5:kitOne K (.type "int") (.ref c_Web)=some false)
 (Zl9:kitOne K (.type "str") (.ref c_Web)=some false)
 (Zl7:kitOne K (.type "list") (.ref c_Web)=some false)
 (Zmb:kitOne K (.type "tuple") (.ref c_Web)=some false)
 (Zl1:kitOne K (.ref c_Web) (.ref c_Web)=some true)
 (Zl0:kitOne K (.type "NoneType") (.type "tuple")=some false)
 (Zl4:kitOne K (.type "bool") (.type "tuple")=some false)
 (Zl6:kitOne K (.type "int") (.type "tuple")=some false)
 (Zma:kitOne K (.type "str") (.type "tuple")=some false)
 (Zl8:kitOne K (.type "list") (.type "tuple")=some false)
 (Zmc:kitOne K (.type "tuple") (.type "tuple")=some true)
 (Zl2:kitOne K (.ref c_Web) (.type "tuple")=some false)
 : ∃fd:FuncData,(∀(s:Shared)(v:Value),BindsTo s fd ⟨[v],[]⟩ [("script",v)])/\∀base:Heap,K.In base->base.Ns mainGlobals mg->FnOk l.prog w K mg base CX0 5 fa fd ["script"] (JL K):=by
 have e:=hfa.symm.trans (mg_of X G a19);cases e;have F0:FunX K "kept_ways" "kept_ways" X6 f0 _:=(ZP (st:=X6) l0 c0 k0).x;have b0:=(ZP (st:=X6) l0 c0 k0).binds (ps:=["ways"]) λ_ _ _ _ _ _ us hl=>match us,hl with|[_],_=>rfl
 have F1:FunX K "__init__" "Web.__init__" Vl f1 _:=(ZP (st:=Vl) l1 c1 k1).x;have b1:=(ZP (st:=Vl) l1 c1 k1).binds (ps:=["self", "homes", "weights", "ways"]) λ_ _ _ _ _ _ us hl=>match us,hl with|[_,_,_,_],_=>rfl
 have F2:FunX K "many" "Web.many" VW f2 _:=(ZP (st:=VW) l2 c2 k2).x;have b2:=(ZP (st:=VW) l2 c2 k2).binds (ps:=["self"]) λ_ _ _ _ _ _ us hl=>match us,hl with|[_],_=>rfl
 have F3:FunX K "doubled" "doubled" Vm f3 _:=(ZP (st:=Vm) l3 c3 k3).x;have b3:=(ZP (st:=Vm) l3 c3 k3).binds (ps:=["ways", "place", "new"]) λ_ _ _ _ _ _ us hl=>match us,hl with|[_,_,_],_=>rfl
 have F4:FunX K "split" "split" XA f4 _:=(ZP (st:=XA) l4 c4 k4).x;have b4:=(ZP (st:=XA) l4 c4 k4).binds (ps:=["web", "n", "place", "picks"]) λ_ _ _ _ _ _ us hl=>match us,hl with|[_,_,_,_],_=>rfl
 have F5:FunX K "evened" "evened" VY f5 _:=(ZP (st:=VY) l5 c5 k5).x;have b5:=(ZP (st:=VY) l5 c5 k5).binds (ps:=["web"]) λ_ _ _ _ _ _ us hl=>match us,hl with|[_],_=>rfl
 have F6:FunX K "_law_cell_at" "_law_cell_at" VZ f6 _:=(ZP (st:=VZ) l6 c6 k6).x;have b6:=(ZP (st:=VZ) l6 c6 k6).binds (ps:=["script", "k"]) λ_ _ _ _ _ _ us hl=>match us,hl with|[_,_],_=>rfl
 have F7:FunX K "_law_block" "_law_block" V0 f7 _:=(ZP (st:=V0) l7 c7 k7).x;have b7:=(ZP (st:=V0) l7 c7 k7).binds (ps:=["k"]) λ_ _ _ _ _ _ us hl=>match us,hl with|[_],_=>rfl
 have F8:FunX K "_law_borne" "_law_borne" Vn f8 _:=(ZP (st:=Vn) l8 c8 k8).x;have b8:=(ZP (st:=Vn) l8 c8 k8).binds (ps:=["weights", "rows", "place", "n"]) λ_ _ _ _ _ _ us hl=>match us,hl with|[_,_,_,_],_=>rfl
 have F9:FunX K "_law_named" "_law_named" V1 f9 _:=(ZP (st:=V1) l9 c9 k9).x;have b9:=(ZP (st:=V1) l9 c9 k9).binds (ps:=["row", "twice"]) λ_ _ _ _ _ _ us hl=>match us,hl with|[_,_],_=>rfl
 have F10:FunX K "_law_web" "_law_web" XT f10 _:=(ZP (st:=XT) l10 c10 k10).x;have b10:=(ZP (st:=XT) l10 c10 k10).binds (ps:=["script", "at", "n"]) λ_ _ _ _ _ _ us hl=>match us,hl with|[_,_,_],_=>rfl
 have F11:FunX K "_law_handed" "_law_handed" Vo f11 _:=(ZP (st:=Vo) l11 c11 k11).x;have b11:=(ZP (st:=Vo) l11 c11 k11).binds (ps:=["script", "told"]) λ_ _ _ _ _ _ us hl=>match us,hl with|[_,_],_=>rfl
 have F12:FunX K "_law_bears" "_law_bears" Vp f12 _:=(ZP (st:=Vp) l12 c12 k12).x;have b12:=(ZP (st:=Vp) l12 c12 k12).binds (ps:=["told", "n"]) λ_ _ _ _ _ _ us hl=>match us,hl with|[_,_],_=>rfl
 have F13:FunX K "_law_come_to" "_law_come_to" V2 f13 _:=(ZP (st:=V2) l13 c13 k13).x;have b13:=(ZP (st:=V2) l13 c13 k13).binds (ps:=["ways", "place"]) λ_ _ _ _ _ _ us hl=>match us,hl with|[_,_],_=>rfl
 have F14:FunX K "_law_tied" "_law_tied" V3 f14 _:=(ZP (st:=V3) l14 c14 k14).x;have b14:=(ZP (st:=V3) l14 c14 k14).binds (ps:=["told"]) λ_ _ _ _ _ _ us hl=>match us,hl with|[_],_=>rfl
 have F15:FunX K "_law_picks" "_law_picks" X7 f15 _:=(ZP (st:=X7) l15 c15 k15).x;have b15:=(ZP (st:=X7) l15 c15 k15).binds (ps:=["weights", "ways", "place", "n"]) λ_ _ _ _ _ _ us hl=>match us,hl with|[_,_,_,_],_=>rfl
 have F16:FunX K "_law_place" "_law_place" Vq f16 _:=(ZP (st:=Vq) l16 c16 k16).x;have b16:=(ZP (st:=Vq) l16 c16 k16).binds (ps:=["weights", "ways"]) λ_ _ _ _ _ _ us hl=>match us,hl with|[_,_],_=>rfl
 have F17:FunX K "_law_behind" "_law_behind" Xr f17 _:=(ZP (st:=Xr) l17 c17 k17).x;have b17:=(ZP (st:=Xr) l17 c17 k17).binds (ps:=["told", "place", "picks", "n"]) λ_ _ _ _ _ _ us hl=>match us,hl with|[_,_,_,_],_=>rfl
 have F18:FunX K "_law_told" "_law_told" V4 f18 _:=(ZP (st:=V4) l18 c18 k18).x;have b18:=(ZP (st:=V4) l18 c18 k18).binds (ps:=["web"]) λ_ _ _ _ _ _ us hl=>match us,hl with|[_],_=>rfl
 have F19:FunX K "law" "law" XB fa _:=(ZP (st:=XB) l19 c19 k19).x;have b19:=(ZP (st:=XB) l19 c19 k19).binds (ps:=["script"]) λ_ _ _ _ _ _ us hl=>match us,hl with|[_],_=>rfl
 have T:Txt K mg { a_QM:=f0,d_QM:=_,a_QP:=f1,d_QP:=_,a_QN:=f2,d_QN:=_,a_QQ:=f3,d_QQ:=_,a_QS:=f4,d_QS:=_,a_QR:=f5,d_QR:=_,a_QA:=f6,d_QA:=_,a_QJ:=f7,d_QJ:=_,a_QI:=f8,d_QI:=_,a_QG:=f9,d_QG:=_,a_QO:=f10,d_QO:=_,a_QD:=f11,d_QD:=_,a_QH:=f12,d_QH:=_,a_QB:=f13,d_QB:=_,a_QK:=f14,d_QK:=_,a_QE:=f15,d_QE:=_,a_QF:=f16,d_QF:=_,a_QC:=f17,d_QC:=_,a_QL:=f18,d_QL:=_,a_QT:=fa,d_QT:=_,c_Web:=c_Web }:={ f_QM:=F0,b_QM:=b0,g_QM:=mg_of X G a0,k_QM:=k0,f_QP:=F1,b_QP:=b1,k_QP:=k1,f_QN:=F2,b_QN:=b2,k_QN:=k2,f_QQ:=F3,b_QQ:=b3,g_QQ:=mg_of X G a3,k_QQ:=k3,f_QS:=F4,b_QS:=b4,g_QS:=mg_of X G a4,k_QS:=k4,f_QR:=F5,b_QR:=b5,g_QR:=mg_of X G a5,k_QR:=k5,f_QA:=F6,b_QA:=b6,g_QA:=mg_of X G a6,k_QA:=k6,f_QJ:=F7,b_QJ:=b7,g_QJ:=mg_of X G a7,k_QJ:=k7,f_QI:=F8,b_QI:=b8,g_QI:=mg_of X G a8,k_QI:=k8,f_QG:=F9,b_QG:=b9,g_QG:=mg_of X G a9,k_QG:=k9,f_QO:=F10,b_QO:=b10,g_QO:=mg_of X G a10,k_QO:=k10,f_QD:=F11,b_QD:=b11,g_QD:=mg_of X G a11,k_QD:=k11,f_QH:=F12,b_QH:=b12,g_QH:=mg_of X G a12,k_QH:=k12,f_QB:=F13,b_QB:=b13,g_QB:=mg_of X G a13,k_QB:=k13,f_QK:=F14,b_QK:=b14,g_QK:=mg_of X G a14,k_QK:=k14,f_QE:=F15,b_QE:=b15,g_QE:=mg_of X G a15,k_QE:=k15,f_QF:=F16,b_QF:=b16,g_QF:=mg_of X G a16,k_QF:=k16,f_QC:=F17,b_QC:=b17,g_QC:=mg_of X G a17,k_QC:=k17,f_QL:=F18,b_QL:=b18,g_QL:=mg_of X G a18,k_QL:=k18,f_QT:=F19,b_QT:=b19,g_QT:=mg_of X G a19,k_QT:=k19,n_all:=mg_none_of X G Zmq,n_enumerate:=mg_none_of X G Zmr,n_isinstance:=mg_none_of X G Zms,n_len:=mg_none_of X G Zmt,n_list:=mg_none_of X G Zmu,n_max:=mg_none_of X G Zmv,n_min:=mg_none_of X G Zmw,n_range:=mg_none_of X G Zmx,n_reversed:=mg_none_of X G Zmy,n_set:=mg_none_of X G Zmz,n_sorted:=mg_none_of X G ZmA,n_sum:=mg_none_of X G ZmB,n_tuple:=mg_none_of X G ZmC,g_Web:=mg_of X G Zmp,cl_Web:=⟨Zmm,ZlX,Zmn,Zmo⟩,ci_Web:=⟨⟨Zmm,ZlX,Zmn,Zmo⟩,ZlW,hn_,htk_,ZlY⟩,mk_Web:=⟨Zmh,Zmg,Zmf,Zmd⟩,fl_homes:=(by intro c hc;simp only [XR,List.mem_cons,List.mem_nil_iff,or_false]at hc;rcases hc with rfl<;>first|exact⟨⟨Zmm,ZlX,Zmn,Zmo⟩,Zmj⟩),fl_ways:=(by intro c hc;simp only [Xz,List.mem_cons,List.mem_nil_iff,or_false]at hc;rcases hc with rfl<;>first|exact⟨⟨Zmm,ZlX,Zmn,Zmo⟩,Zmk⟩),fl_weights:=(by intro c hc;simp only [XS,List.mem_cons,List.mem_nil_iff,or_false]at hc;rcases hc with rfl<;>first|exact⟨⟨Zmm,ZlX,Zmn,Zmo⟩,Zml⟩),me_Web_many:=⟨Zme,Zmi,k2⟩,isi_Web:=ZdR (by intro p hp;simp only [Ji,List.mem_cons,List.mem_nil_iff,or_false]at hp;rcases hp with rfl|rfl|rfl|rfl|rfl|rfl|rfl<;>first|exact ZlZ|exact Zl3|exact Zl5|exact Zl9|exact Zl7|exact Zmb|exact⟨Zl1,⟨Zmm,ZlX,Zmn,Zmo⟩,ZlW,hn_,htk_,ZlY⟩),isi_tuple:=ZdR (by intro p hp;simp only [Qv,List.mem_cons,List.mem_nil_iff,or_false]at hp;rcases hp with rfl|rfl|rfl|rfl|rfl|rfl|rfl<;>first|exact Zl0|exact Zl4|exact Zl6|exact Zma|exact Zl8|exact Zmc|exact⟨Zl2,⟨Zmm,ZlX,Zmn,Zmo⟩,ZlW,hn_,htk_,ZlY⟩) }
 exact⟨fnOf "law" "law" (defArgs XB) (defBody XB) (defScope XB) .none kV19 dc19 pm19 an19 cd19 ct19,λs v => .of_eq rfl,λbase _ _=>ZjI hall T⟩
theorem walk {l:PySem.W.OpenLaw} {q:Program} {loose:List Str} {XP:(Str->Option Value)->Heap->Prop} {YP:World->Heap->Prop} {d:DefRec} {K:Params->PySem.W.Frag} (hn:l.most=some 63) (hdf:d.params.defaults=[])
 (hY:∀(w:World)(h:Heap),YP w h->(K w.params).In h)
 (F:∀(w:World)(mg:Str->Option Value)(fa:Addr)(h:Heap),(K w.params).In h->h.Ns mainGlobals mg->mg d.name=some (.ref fa) ->
   ∃fd:FuncData,(∀(s:Shared)(u:Value),BindsTo s fd ⟨[u],[]⟩ [("script",u)])/\∀base:Heap,(K w.params).In base->base.Ns mainGlobals mg->FnOk l.prog w (K w.params) mg base CX0 5 fa fd ["script"] (JL (K w.params))) :
 PySem.W.WalkO q loose XP YP l.row.toRowW d [] (λf vs=>PySem.call f vs):=
 L2.walk_of (n:=63) (k:=5) (x:="script") (CX:=λ_=>CX0) (sp:=λw=>JL (K w.params)) hn (by decide) hdf ⟨rfl,by decide,by decide⟩ hY F (λ_ _ a ns hl _ hS=>⟨a,ns,rfl,hS,hl,λ_=>rfl⟩) λ_ _ _ _ _ z=>z
end K37
open PySem PySem.W PyProof.Rows
set_option maxRecDepth 100000 in
set_option maxHeartbeats 0 in
theorem PySem.Challenge.cw_grooveway_k37_a_split_done_holds : PySem.Challenge.rw_grooveway_k37_a_split_done.Holds := by
 w_on;o_law
 refine holds_open (r:=PySem.Challenge.rw_grooveway_k37_a_split_done.row) (q:=(view PySem.Challenge.pw_grooveway_k37_a_split_done [1,2,4,5,6,8,9,10,11,12,13,14,15,16,17,18,19,20,21])) (loose:=[]) (XP:=XL (view PySem.Challenge.pw_grooveway_k37_a_split_done [1,2,4,5,6,8,9,10,11,12,13,14,15,16,17,18,19,20,21]) []) (YP:=InK K37.kP) K37.left (InK.of K37.kP_as) InK.keeps (λs e=>xl_of s (Bool.and_eq_true_iff.mp e).1) XL.keeps (by rfl) (by rfl) (by rfl) (λs e=>recFacts_of (Bool.and_eq_true_iff.mp e).2) (by rfl) (by assumption) (by decide +kernel) ⟨rfl,rfl,rfl,rfl,rfl,by decide +kernel⟩ ?hw ?hc
 case hw=>w_witness2
 k_fill
 refine K37.walk (l:=PySem.Challenge.rw_grooveway_k37_a_split_done) rfl rfl (λw h Y=>Y) ?F
 case F=>
  intro w mg fa h KX G hmg;refine' K37.all_mk K37.all_true KX G hmg ?Zmp ?a0 ?l0 ?c0 ?k0 ?a1 ?l1 ?c1 ?k1 ?a2 ?l2 ?c2 ?k2 ?a3 ?l3 ?c3 ?k3 ?a4 ?l4 ?c4 ?k4 ?a5 ?l5 ?c5 ?k5 ?a6 ?l6 ?c6 ?k6 ?a7 ?l7 ?c7 ?k7 ?a8 ?l8 ?c8 ?k8 ?a9 ?l9 ?c9 ?k9 ?a10 ?l10 ?c10 ?k10 ?a11 ?l11 ?c11 ?k11 ?a12 ?l12 ?c12 ?k12 ?a13 ?l13 ?c13 ?k13 ?a14 ?l14 ?c14 ?k14 ?a15 ?l15 ?c15 ?k15 ?a16 ?l16 ?c16 ?k16 ?a17 ?l17 ?c17 ?k17 ?a18 ?l18 ?c18 ?k18 ?a19 ?l19 ?c19 ?k19 ?Zmq ?Zmr ?Zms ?Zmt ?Zmu ?Zmv ?Zmw ?Zmx ?Zmy ?Zmz ?ZmA ?ZmB ?ZmC ?Zmm ?ZlX ?Zmn ?Zmo ?ZlW ?ZlY ?Zmh ?Zmd ?Zmg ?Zmf ?hn_ ?htk_ ?Zmj ?Zmk ?Zml ?Zme ?Zmi ?ZlZ ?Zl3 ?Zl5 ?Zl9 ?Zl7 ?Zmb ?Zl1 ?Zl0 ?Zl4 ?Zl6 ?Zma ?Zl8 ?Zmc ?Zl2
  (case Zmp|a0|l0|c0|k0|a1|l1|c1|k1|a2|l2|c2|k2|a3|l3|c3|k3|a4|l4|c4|k4|a5|l5|c5|k5|a6|l6|c6|k6|a7|l7|c7|k7|a8|l8|c8|k8|a9|l9|c9|k9|a10|l10|c10|k10|a11|l11|c11|k11|a12|l12|c12|k12|a13|l13|c13|k13|a14|l14|c14|k14|a15|l15|c15|k15|a16|l16|c16|k16|a17|l17|c17|k17|a18|l18|c18|k18|a19|l19|c19|k19|Zmq|Zmr|Zms|Zmt|Zmu|Zmv|Zmw|Zmx|Zmy|Zmz|ZmA|ZmB|ZmC|Zmm|ZlX|Zmn|Zmo|ZlW|ZlY|Zmh|Zmd|Zmg|Zmf|hn_|htk_|Zmj|Zmk|Zml|Zme|Zmi=>k_is)
  (case ZlZ|Zl3|Zl5|Zl9|Zl7|Zmb|Zl1|Zl0|Zl4|Zl6|Zma|Zl8|Zmc|Zl2=>kit_is)
